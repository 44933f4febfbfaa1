import PyProof.Rows.All
import Wide.All
import OpenK.AllK
import Wide.FinOn
import Lean
import PyProof.EqAt
import PyProof.EqKinds
import PyProof.TupleCall
import PyProof.StrOps
import PyProof.MeetsStr
import PyProof.StrLawsJoin
import PySem.Challenge.RW_leastdeeds_k12_rules_that_hold
set_option Elab.async false
set_option linter.all false
set_option maxRecDepth 100000
set_option autoImplicit true
set_option relaxedAutoImplicit true
set_option maxHeartbeats 0
set_option bootstrap.genMatcherCode false
set_option genSizeOf false
noncomputable section
local macro_rules(kind:=«term{_}»)|`({$a:term,*})=>`(⟨$a,*⟩)
local macro_rules(kind:=Lean.Parser.Term.quotedName)|x=>match x[0].isNameLit?.getD .anonymous|>.toString with|"a"=>`(by omega)|"d"=>`(by decide)|"s"=>`(by simp)|"o"=>`(by simp;omega)|"k"=>`(by decide +kernel)|"r"=>`(by rfl)|_=>Lean.Macro.throwUnsupported
local macro_rules|`(tactic|omega)=>`(tactic|first|(simp +arith;done)|lia|omega(config:={}))
abbrev tqa:=@PySem.wpAny_bind
abbrev tqb:=@PySem.wpAny_pure
abbrev tqf:=@PySem.wpAny_field
abbrev tqo:=@PySem.wpAny_holding
abbrev tqp:=@PySem.wpAny_truthy_bool
abbrev Oy:=@List.getElem?_eq_some_iff
abbrev Oz:=@PySem.Value
abbrev OA:=@PySem.W.Frag
abbrev OB:=@Bool.and_eq_true
abbrev OD:=@PySem.Shared
abbrev OE:=@PySem.Heap.get?_push_of_some
abbrev OF:=@Nat.le_refl
abbrev OG:=@Option.some.inj
abbrev OH:=@List.size_toArray
abbrev OI:=@Nat.le_trans
abbrev OJ:=@List.all_eq_true
abbrev OL:=@List.mem_cons
abbrev OM:=@List.length_map
abbrev ON:=@List.mem_cons_of_mem
abbrev OQ:=@PySem.Heap.lt_size
abbrev OT:=@List.mem_cons_self
abbrev OU:=@Option.map_eq_some_iff
abbrev OV:=@List.mem_of_getElem?
abbrev OW:=@List.getElem?_eq_getElem
abbrev OX:=@PySem.Program
abbrev OY:=@Nat.lt_of_lt_of_le
abbrev OZ:=@PySem.Heap.get?_push_size
abbrev O3:=@List.getElem?_set_ne
abbrev O6:=@PySem.World
abbrev O7:=@List.mem_singleton
abbrev O8:=@PyProof.Rows.slot_tuple_getitem
abbrev O9:=@List.getElem?_cons_zero
abbrev Pa:=@List.not_mem_nil
abbrev Pb:=@List.getElem?_cons_succ
abbrev Pc:=@Bool.false_ne_true
abbrev Pd:=@List.getElem?_append_left
abbrev Pe:=@List.mem_append
abbrev Pf:=@List.getElem?_set_self
abbrev Ph:=@List.getElem?_map
abbrev Pj:=@Array.getElem?_eq_some_iff
abbrev Pk:=@Nat.le_of_ble_eq_true
abbrev Pm:=@Option.getD_some
abbrev Pn:=@List.lookup_cons
abbrev Po:=@PySem.Env
abbrev Pp:=@Option.some.injEq
abbrev Pq:=@List.mem_append_right
abbrev Pt:=@List.mem_map
abbrev Pu:=@PySem.Around
abbrev Pw:=@List.mem_of_mem_take
abbrev Px:=@List.getElem_mem
abbrev Py:=@PySem.OsState
abbrev Pz:=@List.length_append
abbrev PB:=@Option.bind_eq_some_iff
abbrev PC:=@PySem.W.kia_one
abbrev PD:=@PySem.W.SharedT
abbrev PF:=@List.all_cons
abbrev PH:=@PySem.Heap.get?_update_other
abbrev PJ:=@beq_eq_false_iff_ne
abbrev PK:=@Nat.ne_of_lt
abbrev PL:=@Iff.rfl
abbrev PM:=@PyProof.Rows.callWith_type1
abbrev PN:=@List.getElem?_append_right
abbrev PQ:=@List.getD_eq_getElem?_getD
abbrev PR:=@Nat.lt_irrefl
abbrev PU:=@List.length_take
abbrev PV:=@Option.isNone_iff_eq_none
abbrev PX:=@List.length_range
abbrev PY:=@List.getElem?_eq_none
abbrev PZ:=@Ne.symm
abbrev P4:=@Nat.ne_of_gt
abbrev P5:=@Int.emod_lt_of_pos
abbrev P6:=@PySem.Params
abbrev P7:=@PySem.Obj.data_mapFields
abbrev P8:=@PySem.W.mg_of
abbrev P9:=@List.take_succ
abbrev Qa:=@List.take_of_length_le
abbrev Qb:=@List.exists_of_findSome?_eq_some
abbrev Qc:=@Int.emod_nonneg
abbrev Qd:=@PySem.Heap.get?_update_self
abbrev Qe:=@List.mem_append_left
abbrev Qf:=@PySem.Comprehension
abbrev Qg:=@List.nil_append
abbrev Qh:=@List.replicate_succ
abbrev Qi:=@PySem.W.InstAt
abbrev Qj:=@Bool.false_eq_true
abbrev Qk:=@Bool.eq_iff_iff
abbrev Ql:=@List.mem_of_mem_drop
abbrev Qm:=@List.map_cons
abbrev Qn:=@Array.length_toList
abbrev Qo:=@PySem.Heap.get?_none_of_le
abbrev Qp:=@Option.bind_some
abbrev Qq:=@List.mem_range
abbrev Qr:=@List.getElem?_replicate
abbrev Qs:=@Nat.zero_add
abbrev Qt:=@List.set_cons_zero
abbrev Qu:=@List.set_cons_succ
abbrev Qv:=@Bool.or_eq_true
abbrev Qw:=@List.flatten_cons
abbrev Qx:=@Bool.not_eq_true'
abbrev Qy:=@Nat.zero_le
abbrev Qz:=@Bool.and_eq_true_iff
abbrev QA:=@PySem.DictEntry
abbrev QB:=@PySem.Obj.isFreed_of_fields
abbrev QC:=@List.cons_append
abbrev QD:=@PySem.mem_of_lookup
abbrev QE:=@List.filterMap_cons
abbrev QF:=@Int.toNat_of_nonneg
abbrev QG:=@PySem.Paired
abbrev QH:=@PySem.FuncData
abbrev QI:=@Nat.lt_of_le_of_lt
abbrev QJ:=@PySem.W.Looks
namespace HD
open PySem PySem.W
noncomputable def iN (tb:String->Option Builtin)(p:OX)(w:O6)(n0:Nat)(ann:Option Oz):Nat->PD->Thread->Option PD
 |0,_,_=>none
 | n + 1, s, t => match through t with
   |true=>some s
   | false => match stepOk n0 ann t with
     |false=>none
     | true => match stepT (denote tb) p w s t with
       |some (s',t')=>iN tb p w n0 ann n s' t'
       |none=>none
def rK {tb:String->Option Builtin}{p:OX}{w:O6}{n0:Nat}{ann:Option Oz}:∀{n:Nat}{s s':PD}{t:Thread},iN tb p w n0 ann n s t=some s'->topRun tb p w n0 ann n s.abs t=some s'.abs
 |0,_,_,_,h=>by cases h
 | n + 1, s, s', t, h => by
   unfold iN at h;unfold topRun;cases he:through t with
   |true=>rw[he] at h;cases h;rfl
   | false =>
     rw[he] at h;cases hk:stepOk n0 ann t with
     |false=>rw[hk] at h;cases h
     | true =>
       rw[hk] at h;cases hs:stepT (denote tb) p w s t with
       |none=>rw[hs] at h;cases h
       |some r=>obtain⟨s2,t2⟩:=r;rw[hs] at h;rw[stepT_spec hs];exact rK h
noncomputable def treeOf:List Obj->Nat->BT->BT
 |[],_,t=>t
 |o::r,n,t=>treeOf r (n+1) (t.ins n o)
noncomputable def yw (P:P6)(os:Py):PD:={treeOf (boot_heap P).objs.toList 0 .nil,(boot_heap P).objs.toList.length,(boot_heap P).life,#[],boot_drawn,boot_toks,os}
def boot_abs (P:P6)(os:Py):(yw P os).abs={boot_heap P,#[],boot_drawn,boot_toks,os}:=by kernel_rfl
noncomputable def l4 (p q:OX)(loose:List Str)(Xt:OD->Bool)(g0:Bool)(h0:Heap){α:Type}(Yf:OD->α)(s:OD):=
 ((staticsOk (importedModules p.main.body) h0 s.heap&&namesBound p s.heap&&gensDone s&&laidKept h0 s.heap),openSeen q loose (importedModules p.main.body) Xt g0 s,Yf s)
noncomputable def wL (tb:String->Option Builtin)(p:OX)(w:O6)(n0:Nat)(ann:Option Oz):Nat->PD->Thread->Option (PD×Thread)
 |0,s,t=>some (s,t)
 | n + 1, s, t => match through t with
   |true=>none
   | false => match stepOk n0 ann t with
     |false=>none
     | true => match stepT (denote tb) p w s t with
       |some (s',t')=>wL tb p w n0 ann n s' t'
       |none=>none
noncomputable def lW (tb:String->Option Builtin)(p:OX)(w:O6)(n0:Nat)(ann:Option Oz):Nat->PD->Thread->Option (Flow×PD×Code×Pos)
 |0,_,_=>none
 | n + 1, s, t => match endAt 1 t with
   |some f=>some (f,s,t.code,t.pos)
   | none => match stepOk n0 ann t with
     |false=>none
     | true => match stepT (denote tb) p w s t with
       |some (s',t')=>lW tb p w n0 ann n s' t'
       |none=>none
section
variable{tb:String->Option Builtin}{p:OX}{w:O6}{n0:Nat}{ann:Option Oz}
def AF:∀{n:Nat}{s s':PD}{t t':Thread},wL tb p w n0 ann n s t=some (s',t')->topGo tb p w n0 ann n s.abs t=some (s'.abs,t')
 |0,s,s',t,t',h=>by cases h;rfl
 | n + 1, s, s', t, t', h => by
   unfold wL at h;unfold topGo;cases he:through t with
   |true=>rw[he] at h;cases h
   | false =>
     rw[he] at h;cases hk:stepOk n0 ann t with
     |false=>rw[hk] at h;cases h
     | true =>
       rw[hk] at h;cases hs:stepT (denote tb) p w s t with
       |none=>rw[hs] at h;cases h
       |some q=>obtain⟨s2,t2⟩:=q;rw[hs] at h;rw[stepT_spec hs];exact AF h
def qv:∀{n:Nat}{s s':PD}{t:Thread}{f:Flow}{c:Code}{q:Pos},lW tb p w n0 ann n s t=some (f,s',c,q)->segRun tb p w n0 ann 1 n s.abs t=some (f,s'.abs,c,q)
 |0,_,_,_,_,_,_,h=>by cases h
 | n + 1, s, s', t, f, c, q, h => by
   unfold lW at h;unfold segRun;cases he:endAt 1 t with
   |some g=>rw[he] at h;cases h;rfl
   | none =>
     rw[he] at h;cases hk:stepOk n0 ann t with
     |false=>rw[hk] at h;cases h
     | true =>
       rw[hk] at h;cases hs:stepT (denote tb) p w s t with
       |none=>rw[hs] at h;cases h
       |some x=>obtain⟨s2,t2⟩:=x;rw[hs] at h;rw[stepT_spec hs];exact qv h
def ve {n3 N:Nat}{s s2:PD}{env:Env}{c:Code}{p' p2 q:Pos}{b:List Stmt}{J:Nat}{α:Type}{f:OD->α}{a:α}
 (h3:lW tb p w n0 ann n3 s (piecesOf (b.take J) env c p' [topFrame q])=some (.next,s2,c,p2))
 (h4:(topRun tb p w n0 ann N s2.abs (restOf (b.drop J) env c p2 [topFrame q])).map f=some a):(topRun tb p w n0 ann (n3+N) s.abs (restOf b env c p' [topFrame q])).map f=some a:=by
 obtain⟨r,e3,e4⟩:=OU.mp h4;have k4:=piece_app (qv h3) e3;rw[List.take_append_drop] at k4;rw[k4];exact congrArg some e4
def AR {N:Nat}{s2:PD}{t:Thread}{p' q:OX}{loose:List Str}{Xt:OD->Bool}{g0:Bool}{h0:Heap}{α:Type}{Yf:OD->α}{a b c}
 (h1:(iN tb p w n0 ann N s2 t).map (λs=>(l4 p' q loose Xt g0 h0 Yf s.abs).1)=some a) (h2:(iN tb p w n0 ann N s2 t).map (λs=>(l4 p' q loose Xt g0 h0 Yf s.abs).2.1)=some b)
 (h3:(iN tb p w n0 ann N s2 t).map (λs=>(l4 p' q loose Xt g0 h0 Yf s.abs).2.2)=some c):(topRun tb p w n0 ann N s2.abs t).map (l4 p' q loose Xt g0 h0 Yf)=some (a,b,c):=by
 obtain⟨r,e3,rfl⟩:=OU.mp h1;rw[e3] at h2 h3;cases h2;cases h3;rw[rK e3];rfl
def AS {n1 n2 N:Nat}{s s':PD}{env:Env}{c:Code}{pos p' q:Pos}{t:Thread}{b:List Stmt}{J:Nat}{α:Type}{f:OD->α}{a:α}
 (h1:(wL tb p w n0 ann n1 s t).map (·.2)=some {denote tb (.body b env),c,pos,[topFrame q]}) (h0:endAt 1 (blockOf b env c pos [topFrame q])=some .next)
 (h2:((wL tb p w n0 ann n1 s t).bind λx=>lW tb p w n0 ann n2 x.1 (piecesOf (b.take J) env c pos [topFrame q]))=some (.next,s',c,p'))
 (h3:(topRun tb p w n0 ann N s'.abs (restOf (b.drop J) env c p' [topFrame q])).map f=some a):(topRun tb p w n0 ann (n1+(1+(n2+N))) s.abs t).map f=some a:=by
 obtain⟨⟨s1,t1⟩,e1,e2⟩:=OU.mp h1;have e2:t1={denote tb (.body b env),c,pos,[topFrame q]}:=e2;subst e2;rw[e1] at h2;have h2:lW tb p w n0 ann n2 s1 (piecesOf (b.take J) env c pos [topFrame q])=some (.next,s',c,p'):=h2
 obtain⟨r,e3,e4⟩:=OU.mp h3;have k3:=piece_app (qv h2) e3;rw[List.take_append_drop] at k3;have hb:segRun tb p w n0 ann 1 1 s1.abs (blockOf b env c pos [topFrame q])=some (.next,s1.abs,c,pos):=by
  show(match endAt 1 (blockOf b env c pos [topFrame q]) with|some f=>some (f,s1.abs,c,pos)|none=>_)=_
  rw[h0]
 have k2:=piece_block hb k3;rw[go_top (AF e1) k2];exact congrArg some e4
end
def vJ {p q:OX}{loose:List Str}{Xt:OD->Bool}{α:Type}{Yf:OD->α}{Ya:O6->α}{N:Nat}{g0:Bool}{m0:Nat}{ann:Option Oz}
 (open_:∀w:O6,(fencedOpening treeTable p w N).map (λs=>(s.heap,s.gens,s.drawn,s.toks))=some (boot_heap w.params,Array.mk [],boot_drawn,boot_toks))
 (size:∀w:O6,((boot_heap w.params).isNs mainGlobals&&(Array.mk ([]:List GenState)).size==0,(boot_heap w.params).objs.size,(boot_heap w.params).nsMap mainGlobals "__annotations__")=(true,m0,ann))
 (run:∀(w:O6) (os:Py),(topRun treeTable p w m0 ann N (yw w.params os).abs (topStub p)).map (l4 p q loose Xt g0 (boot_heap w.params) Yf)=some (true,openGood q loose,Ya w)):LeftO p q loose Xt Yf Ya N g0:=λw=>by
 obtain⟨⟨h,gs,d,k,os⟩,e,e'⟩:=OU.mp (open_ w);obtain⟨rfl,rfl,rfl,rfl⟩:h=boot_heap w.params/\gs=Array.mk []/\d=boot_drawn/\k=boot_toks:=by simpa using e'
 obtain⟨z1,z2,z3⟩:_/\_/\_:=by simpa only[Prod.mk.injEq] using size w
 obtain⟨s1,r,l⟩:=OU.mp (run w os);obtain⟨l1,l2,l3⟩:_/\_/\_:=by simpa only[l4,Prod.mk.injEq] using l
 rw[boot_abs] at r;have t:topFrom treeTable p w N {boot_heap w.params,Array.mk [],boot_drawn,boot_toks,os}=some s1:=by
  unfold topFrom;dsimp only;rw[z1,z2,z3,r];show(match staticsOk (importedModules p.main.body) (boot_heap w.params) s1.heap&&namesBound p s1.heap&&gensDone s1&&laidKept (boot_heap w.params) s1.heap with|true=>_|false=>_)=_
  rw[l1]
 unfold openEnds;rw[e];show(topFrom treeTable p w N _).map _=_;rw[t];exact congrArg some (Prod.ext l2 l3)
end HD
namespace K12
open PySem
abbrev eN (P:P6)(x:Str)(n:Nat)(v:Oz):QA:={PyData.keyHash P x,.str x n,v}
abbrev d5:String:="law_leastdeeds_k12_rules_that_hold"
noncomputable def qM (s:Stmt):Stmt:=match s with
 |.ClassDef _ _ _ (b::_) _ _ _ _ _ _ _=>b
 |_=>s
noncomputable def jC (i:Nat):Stmt:=PySem.Challenge.pw_leastdeeds_k12_rules_that_hold.main.body.getD i (.Pass {0,0,0,0})
noncomputable def td (s:Stmt):Arguments:=match s with
 |.FunctionDef _ a _ _ _ _ _ _ _ _=>a
 |_=>{[],[],none,[],[],none,[]}
noncomputable def s9 (s:Stmt):List Stmt:=match s with
 |.FunctionDef _ _ b _ _ _ _ _ _ _=>b
 |_=>[]
noncomputable def pV (s:Stmt):Scope:=match s with
 |.FunctionDef _ _ _ _ _ _ sc _ _ _=>sc
 |_=>{kind:=.function,names:=[],isGenerator:=false,isCoroutine:=false}
def o1:Obj:={cls:=.type "tuple" ,data:=.seq #[]}
noncomputable def o2 (a:String)(b:Nat)(c:Int)(d:Nat)(e:Int):Obj:={cls:=.type "code" ,data:=.fields #[.str (Str.ofString a) b ,.str (Str.ofString a) (b+1) ,.str ("/claim/cut.py") (b+2) ,.int c 0 ,.int 0 0 ,.int 0 0 ,.int 0 0 ,.int 0 0 ,.ref d ,.bool false ,.int 181 0 ,.ref (d+1) ,.none ,.none ,.none ,.none ,.int e 0 ,.int c 0 ,.str ("/claim/cut.py") (b+4)]}
noncomputable def o3 (a:Nat)(b:Nat)(c:String)(d:Nat):Obj:={cls:=.type "frame" ,slots:=#[some (.ref a) ,some (.ref 3) ,some (.ref b) ,none ,some (.str (Str.ofString c) d) ,none ,some (.ref 0)]}
noncomputable def o4:Obj:={cls:=.type "builtin_function_or_method" ,data:=.fields #[.builtin "type.__prepare__" ,.type "type"]}
noncomputable def o5 (P:P6)(a:Nat)(b:String)(c:Int)(d:Nat):Obj:={cls:=.type "dict" ,data:=.dict #[{hash:=PyData.keyHash P ("__module__") ,key:=.str ("__module__") a ,val:=.str ("leastdeeds.errors") 187} ,{hash:=PyData.keyHash P ("__qualname__") ,key:=.str ("__qualname__") (a+2) ,val:=.str (Str.ofString b) (a+1)} ,{hash:=PyData.keyHash P ("__firstlineno__") ,key:=.str ("__firstlineno__") (a+4) ,val:=.int c (a+3)} ,{hash:=PyData.keyHash P ("__static_attributes__") ,key:=.str ("__static_attributes__") (a+5) ,val:=.ref d}] 4}
def o6:Obj:={cls:=.none ,data:=.fields #[]}
noncomputable def o7 (P:P6)(a:Nat)(b:Int)(c:String)(d:Nat)(e:Nat)(f:String)(g:Nat)(h:Nat):Obj:={cls:=.type "dict" ,data:=.dict #[{hash:=PyData.keyHash P ("__module__") ,key:=.str ("__module__") a ,val:=.str ("leastdeeds.errors") 187} ,{hash:=PyData.keyHash P ("__firstlineno__") ,key:=.str ("__firstlineno__") (a+4) ,val:=.int b (a+3)} ,{hash:=PyData.keyHash P (Str.ofString c) ,key:=.str (Str.ofString c) d ,val:=.ref e} ,{hash:=PyData.keyHash P (Str.ofString f) ,key:=.str (Str.ofString f) (d+2) ,val:=.ref g} ,{hash:=PyData.keyHash P ("__doc__") ,key:=.str ("__doc__") (d+3) ,val:=.none}] h}
noncomputable def o8 (a:Nat):Obj:={cls:=.type "super" ,data:=.fields #[.ref a ,.ref a ,.ref a]}
noncomputable def o9 (a:Nat):Obj:={cls:=.type "builtin_function_or_method" ,data:=.fields #[.builtin "object.__init_subclass__" ,.ref a]}
def kG:Obj:={cls:=.type "tuple" ,data:=.seq #[.ref 24]}
noncomputable def Jd (P:P6)(a:Nat)(b:String)(c:Int)(d:Nat):Obj:={cls:=.type "dict" ,data:=.dict #[{hash:=PyData.keyHash P ("__module__") ,key:=.str ("__module__") a ,val:=.str ("leastdeeds.errors") 187} ,{hash:=PyData.keyHash P ("__qualname__") ,key:=.str ("__qualname__") (a+2) ,val:=.str (Str.ofString b) (a+1)} ,{hash:=PyData.keyHash P ("__firstlineno__") ,key:=.str ("__firstlineno__") (a+4) ,val:=.int c (a+3)} ,{hash:=PyData.keyHash P ("__init__") ,key:=.str ("__init__") (a+12) ,val:=.ref d} ,{hash:=PyData.keyHash P ("__static_attributes__") ,key:=.str ("__static_attributes__") (a+14) ,val:=.ref (d+1)}] 5}
noncomputable def Jc (a:Int)(b:Nat):Obj:={cls:=.none ,data:=.fields #[.int a 0 ,.int 4 0 ,.ref b]}
noncomputable def n6 (a:String)(b:Nat)(c:String):Obj:={cls:=.type "tuple" ,data:=.seq #[.str (Str.ofString a) b ,.str (Str.ofString c) (b+1)]}
noncomputable def Jb (a:String)(b:Nat):Obj:={cls:=.none ,data:=.func {name:="__init__" ,qualname:=Str.ofString a ,params:=td (qM (jC b)) ,body:=PySem.FuncBody.stmts (s9 (qM (jC b))) ,scope:=pV (qM (jC b)) ,globals:=0 ,closure:=[] ,defaults:=.none ,kwdefaults:=.none ,pyModule:=.none ,code:=.none}}
noncomputable def cL (a:String)(b:Nat)(c:String)(d:Int)(e:Int)(f:Nat)(g:Int)(h:Nat):Obj:={cls:=.type "code" ,data:=.fields #[.str (Str.ofString a) b ,.str (Str.ofString c) (b+1) ,.str ("/claim/cut.py") (b+2) ,.int d 0 ,.int e 0 ,.int 0 0 ,.int 0 0 ,.int 3 0 ,.ref f ,.bool true ,.int 181 0 ,.ref (f+1) ,.none ,.ref (f+2) ,.ref (f+3) ,.ref (f+4) ,.int g 0 ,.int d 0 ,.str ("/claim/cut.py") h]}
noncomputable def Ja (a:String)(b:Nat)(c:Nat):Obj:={cls:=.type "function" ,data:=.func {name:="__init__" ,qualname:=Str.ofString a ,params:=td (qM (jC b)) ,body:=PySem.FuncBody.stmts (s9 (qM (jC b))) ,scope:=pV (qM (jC b)) ,globals:=3 ,closure:=[] ,defaults:=.none ,kwdefaults:=.none ,pyModule:=.str ("leastdeeds.errors") 187 ,code:=.ref c}}
noncomputable def rZ (a:String)(b:Nat):Obj:={cls:=.type "tuple" ,data:=.seq #[.str (Str.ofString a) b]}
noncomputable def kF (a:String)(b:Nat)(c:Nat)(d:Nat)(e:Nat):Obj:={cls:=.type "type" ,data:=.cls {name:=Str.ofString a ,bases:=[.ref 24] ,mro:=[.ref b ,.ref 24 ,.type "ValueError" ,.type "Exception" ,.type "BaseException" ,.type "object"] ,ns:=c ,qualname:=Str.ofString a} ,slots:=#[some (.ref d) ,none ,some (.str (Str.ofString a) e) ,some (.str (Str.ofString a) (e+8)) ,some (.builtin "ValueError.__new__") ,some (.bool true)]}
noncomputable def mP (P:P6)(a:Nat)(b:Int)(c:Nat):Obj:={cls:=.type "dict" ,data:=.dict #[{hash:=PyData.keyHash P ("__module__") ,key:=.str ("__module__") a ,val:=.str ("leastdeeds.errors") 187} ,{hash:=PyData.keyHash P ("__firstlineno__") ,key:=.str ("__firstlineno__") (a+4) ,val:=.int b (a+3)} ,{hash:=PyData.keyHash P ("__static_attributes__") ,key:=.str ("__static_attributes__") (a+5) ,val:=.ref c} ,{hash:=PyData.keyHash P ("__doc__") ,key:=.str ("__doc__") (a+6) ,val:=.none}] 2}
noncomputable def D6 (a:String)(b:Nat)(c:String)(d:String):Obj:={cls:=.type "tuple" ,data:=.seq #[.str (Str.ofString a) b ,.str (Str.ofString c) (b+1) ,.str (Str.ofString d) (b+2)]}
noncomputable def bO (a:String)(b:Nat):Obj:={cls:=.none ,data:=.func {name:=Str.ofString a ,qualname:=Str.ofString a ,params:=td (jC b) ,body:=PySem.FuncBody.stmts (s9 (jC b)) ,scope:=pV (jC b) ,globals:=0 ,closure:=[] ,defaults:=.none ,kwdefaults:=.none ,pyModule:=.none ,code:=.none}}
noncomputable def bN (a:String)(b:Nat)(c:String)(d:Nat)(e:Nat):Obj:={cls:=.type "function" ,data:=.func {name:=Str.ofString a ,qualname:=Str.ofString a ,params:=td (jC b) ,body:=PySem.FuncBody.stmts (s9 (jC b)) ,scope:=pV (jC b) ,globals:=3 ,closure:=[] ,defaults:=.none ,kwdefaults:=.none ,pyModule:=.str (Str.ofString c) d ,code:=.ref e}}
noncomputable def iL (a:String)(b:Nat)(c:Int)(d:Int)(e:Nat)(f:Int):Obj:={cls:=.type "code" ,data:=.fields #[.str (Str.ofString a) b ,.str (Str.ofString a) (b+1) ,.str ("/claim/cut.py") (b+2) ,.int c 0 ,.int d 0 ,.int 0 0 ,.int 0 0 ,.int 3 0 ,.ref e ,.bool true ,.int 181 0 ,.ref (e+1) ,.none ,.none ,.none ,.ref (e+2) ,.int f 0 ,.int c 0 ,.str ("/claim/cut.py") (b+4)]}
noncomputable def rY (a:String)(b:Nat)(c:String)(d:String)(e:String)(f:String)(g:String):Obj:={cls:=.type "tuple" ,data:=.seq #[.str (Str.ofString a) b ,.str (Str.ofString c) (b+1) ,.str (Str.ofString d) (b+2) ,.str (Str.ofString e) (b+3) ,.str (Str.ofString f) (b+4) ,.str (Str.ofString g) (b+5)]}
noncomputable def MB (a:String)(b:Nat)(c:String)(d:String):Obj:={cls:=.type "tuple" ,data:=.seq #[.str (Str.ofString a) b ,.str (Str.ofString c) (b+1) ,.str (Str.ofString d) (b+2) ,.str ("at") (b+3) ,.str ("other") (b+4) ,.str ("table") (b+5) ,.str ("price") (b+6)]}
noncomputable def MA (P:P6)(a:Nat)(b:Nat):Obj:={cls:=.type "dict" ,data:=.dict #[{hash:=PyData.keyHash P ("turn") ,key:=.str ("turn") a ,val:=.ref b} ,{hash:=PyData.keyHash P ("join") ,key:=.str ("join") (a+1) ,val:=.ref (b+7)} ,{hash:=PyData.keyHash P ("move") ,key:=.str ("move") (a+2) ,val:=.ref (b+14)} ,{hash:=PyData.keyHash P ("put") ,key:=.str ("put") (a+3) ,val:=.ref (b+21)}] 4}
noncomputable def wx (a:String)(b:Nat)(c:String)(d:String)(e:String)(f:String):Obj:={cls:=.type "tuple" ,data:=.seq #[.str (Str.ofString a) b ,.str (Str.ofString c) (b+1) ,.str (Str.ofString d) (b+2) ,.str (Str.ofString e) (b+3) ,.str (Str.ofString f) (b+4)]}
noncomputable def uB (a:String)(b:Nat)(c:String)(d:String)(e:String):Obj:={cls:=.type "tuple" ,data:=.seq #[.str (Str.ofString a) b ,.str (Str.ofString c) (b+1) ,.str (Str.ofString d) (b+2) ,.str (Str.ofString e) (b+3)]}
noncomputable def Mz (a:String)(b:Nat)(c:String)(d:String)(e:String)(f:String)(g:String)(h:String)(i:String):Obj:={cls:=.type "tuple" ,data:=.seq #[.str (Str.ofString a) b ,.str (Str.ofString c) (b+1) ,.str (Str.ofString d) (b+2) ,.str (Str.ofString e) (b+3) ,.str (Str.ofString f) (b+4) ,.str (Str.ofString g) (b+5) ,.str (Str.ofString h) (b+6) ,.str (Str.ofString i) (b+7)]}
noncomputable def o30:Obj:={cls:=.type "type" ,data:=.cls {name:="DeedError" ,bases:=[.type "ValueError"] ,mro:=[.ref 24 ,.type "ValueError" ,.type "Exception" ,.type "BaseException" ,.type "object"] ,ns:=23 ,qualname:="DeedError" ,subclasses:=[.ref 44 ,.ref 63 ,.ref 82 ,.ref 94 ,.ref 106 ,.ref 118 ,.ref 130 ,.ref 142 ,.ref 154 ,.ref 166 ,.ref 178 ,.ref 190 ,.ref 202 ,.ref 214]} ,slots:=#[some (.ref 15) ,none ,some (.str ("DeedError") 189) ,some (.str ("DeedError") 197) ,some (.builtin "ValueError.__new__") ,some (.bool true)]}
noncomputable def MG (P:P6):List QA:=[eN P "__doc__" 166 (.none),eN P "__package__" 167 (.none),eN P "__loader__" 168 (.builtin "__main__.__loader__#opaque"),eN P "__spec__" 169 (.none),eN P "__annotations__" 170 (.ref 6),eN P "__builtins__" 171 (.ref 4),eN P "__file__" 173 (.str "/claim/cut.py" 172),eN P "__cached__" 174 (.none),eN P "DeedError" 206 (.ref 24),eN P "NoRow" 231 (.ref 44),eN P "NoRule" 256 (.ref 63),eN P "NoStep" 281 (.ref 82),eN P "NoMachine" 297 (.ref 94),eN P "TooLong" 313 (.ref 106),eN P "NoWord" 329 (.ref 118),eN P "NoWork" 345 (.ref 130)]
noncomputable def MF (P:P6):List QA:=MG P++[eN P "NoBound" 361 (.ref 142),eN P "TooMany" 377 (.ref 154),eN P "NoPlace" 393 (.ref 166),eN P "NoDeed" 409 (.ref 178),eN P "Nothing" 425 (.ref 190),eN P "NoText" 441 (.ref 202),eN P "NoLine" 457 (.ref 214),eN P "is_between" 468 (.ref 223),eN P "LEAST_WORDS" 472 (.int 2 471),eN P "MOST_WORDS" 474 (.int 4 473),eN P "MOST_PLACES" 476 (.int 2 475),eN P "MOST_DEEDS" 478 (.int 6 477),eN P "MOST_COST" 480 (.int 3 479),eN P "LONGEST_ROW" 482 (.int 40 481),eN P "is_word" 490 (.ref 230),eN P "is_place" 498 (.ref 237),eN P "is_cost" 505 (.ref 244),eN P "is_tuple_of" 513 (.ref 251),eN P "is_table" 519 (.ref 256),eN P "is_double_table" 525 (.ref 261),eN P "is_turn" 537 (.ref 268),eN P "is_join" 550 (.ref 275),eN P "is_move" 562 (.ref 282),eN P "is_put" 574 (.ref 289),eN P "SORTS" 583 (.ref 290)]
noncomputable def ME (P:P6):List QA:=MF P++[eN P "is_deed" 594 (.ref 297),eN P "is_machine" 600 (.ref 302),eN P "need_machine" 607 (.ref 309),eN P "beginnings" 613 (.ref 314),eN P "is_deed_number" 621 (.ref 321),eN P "need_numbers" 631 (.ref 328),eN P "need_row" 639 (.ref 335),eN P "turned" 653 (.ref 342),eN P "joined" 666 (.ref 349),eN P "moved" 678 (.ref 356),eN P "put_in" 690 (.ref 363),eN P "NEW_WORDS" 699 (.ref 364),eN P "done" 709 (.ref 371),eN P "all_standing" 720 (.ref 378),eN P "ends_of" 726 (.ref 383),eN P "behaviour" 734 (.ref 390),eN P "parted" 750 (.ref 397),eN P "is_row" 758 (.ref 404),eN P "is_rule" 768 (.ref 411),eN P "need_rules" 778 (.ref 418),eN P "_law_spread" 792 (.ref 425),eN P "_law_open" 802 (.ref 432),eN P "_law_anew" 809 (.ref 439),eN P "_law_take" 820 (.ref 446),eN P "_law_sign_but" 826 (.ref 451),eN P "_law_any_sign" 833 (.ref 458),eN P "_law_signed" 842 (.ref 465),eN P "_law_is_whole" 849 (.ref 472),eN P "_law_same" 855 (.ref 477),eN P "_law_tab" 861 (.ref 482),eN P "_law_deed" 867 (.ref 487),eN P "_law_machine" 881 (.ref 494),eN P "_law_row" 887 (.ref 499),eN P "_law_after" 897 (.ref 506),eN P "_law_begins" 903 (.ref 511),eN P "_law_ends" 914 (.ref 518),eN P "_law_is_in" 923 (.ref 525),eN P "_law_numbers" 929 (.ref 530),eN P "_law_is_deed" 935 (.ref 535),eN P "_law_is_machine" 941 (.ref 540),eN P "_law_row_due" 951 (.ref 547),eN P "_law_bent" 966 (.ref 554),eN P "_law_refusal" 975 (.ref 561),eN P "_law_alike_pairs" 981 (.ref 566),eN P "_law_unlike_pair" 992 (.ref 573),eN P "_law_copied" 998 (.ref 578),eN P "_law_told" 1009 (.ref 585),eN P "_law_due" 1015 (.ref 590),eN P "_law_odd_rule" 1027 (.ref 597)]
def kg3 (P:P6):List QA:=ME P++[eN P "law" 1033 (.ref 602)]
noncomputable def MJ (P:P6):List Obj:=[o1,
 {cls:=.none,data:=.fields #[.int 2 0,.int 0 0,.ref 20,.int 4 0,.int 0 0,.ref 33,.int 9 0,.int 0 0,.ref 52,.int 14 0,.int 0 0,.ref 71,.int 19 0,.int 0 0,.ref 90,.int 21 0,.int 0 0,.ref 102,.int 23 0,.int 0 0,.ref 114,.int 25 0,.int 0 0,.ref 126]},
 o2 "<module>" 182 1 11 185,
 o3 13 3 "__main__" 164,
 {cls:=.type "tuple",data:=.seq #[.type "ValueError"]},
 o4,
 o5 P 196 "DeedError" 2 22,
 o1,
 o6,
 o2 "DeedError" 191 2 18 194,
 o3 20 17 "leastdeeds.errors" 187,
 o1,
 o7 P 196 2 "__static_attributes__" 201 22 "__weakref__" 25 3,
 {cls:=.type "type",data:=.cls {name:="DeedError",bases:=[.type "ValueError"],mro:=[.ref 24,.type "ValueError",.type "Exception",.type "BaseException",.type "object"],ns:=23,qualname:="DeedError",subclasses:=[.ref 44,.ref 63,.ref 82,.ref 94,.ref 106,.ref 118,.ref 130]},slots:=#[some (.ref 15),none,some (.str "DeedError" 189),some (.str "DeedError" 197),some (.builtin "ValueError.__new__"),some (.bool true)]},
 {cls:=.type "getset_descriptor",data:=.fields #[.str "__weakref__" 202,.ref 24,.builtin "ExceptionGroup.__weakref__",.none]},
 o8 24,
 o9 24,
 kG,
 o4,
 Jd P 214 "NoRow" 4 41,
 o1,
 Jc 6 40,
 o2 "NoRow" 209 4 31 212,
 o3 33 30 "leastdeeds.errors" 187,
 o1,
 o6,
 n6 "self" 222 "place",
 o1,
 Jb "NoRow.__init__" 2,
 cL "__init__" 219 "NoRow.__init__" 6 2 35 224 225,
 Ja "NoRow.__init__" 2 40,
 rZ "place" 227,
 o7 P 214 4 "__init__" 226 41 "__static_attributes__" 42 2,
 kF "NoRow" 44 43 28 207,
 o8 44,
 o9 44,
 kG,
 o4,
 Jd P 239 "NoRule" 9 60,
 o1,
 Jc 11 59,
 o2 "NoRule" 234 9 50 237,
 o3 52 49 "leastdeeds.errors" 187,
 o1,
 o6,
 n6 "self" 247 "number",
 o1,
 Jb "NoRule.__init__" 3,
 cL "__init__" 244 "NoRule.__init__" 11 2 54 249 250,
 Ja "NoRule.__init__" 3 59,
 rZ "number" 252,
 o7 P 239 9 "__init__" 251 60 "__static_attributes__" 61 2,
 kF "NoRule" 63 62 47 232,
 o8 63,
 o9 63,
 kG,
 o4,
 Jd P 264 "NoStep" 14 79,
 o1,
 Jc 16 78,
 o2 "NoStep" 259 14 69 262,
 o3 71 68 "leastdeeds.errors" 187,
 o1,
 o6,
 n6 "self" 272 "place",
 o1,
 Jb "NoStep.__init__" 4,
 cL "__init__" 269 "NoStep.__init__" 16 2 73 274 275,
 Ja "NoStep.__init__" 4 78,
 rZ "place" 277,
 o7 P 264 14 "__init__" 276 79 "__static_attributes__" 80 2,
 kF "NoStep" 82 81 66 257,
 o8 82,
 o9 82,
 kG,
 o4,
 o5 P 289 "NoMachine" 19 92,
 o1,
 o6,
 o2 "NoMachine" 284 19 88 287,
 o3 90 87 "leastdeeds.errors" 187,
 o1,
 mP P 289 19 92,
 kF "NoMachine" 94 93 85 282,
 o8 94,
 o9 94,
 kG,
 o4,
 o5 P 305 "TooLong" 21 104,
 o1,
 o6,
 o2 "TooLong" 300 21 100 303,
 o3 102 99 "leastdeeds.errors" 187,
 o1,
 mP P 305 21 104,
 kF "TooLong" 106 105 97 298,
 o8 106,
 o9 106,
 kG,
 o4,
 o5 P 321 "NoWord" 23 116,
 o1,
 o6,
 o2 "NoWord" 316 23 112 319,
 o3 114 111 "leastdeeds.errors" 187,
 o1,
 mP P 321 23 116,
 kF "NoWord" 118 117 109 314,
 o8 118,
 o9 118,
 kG,
 o4,
 o5 P 337 "NoWork" 25 128,
 o1,
 o6,
 o2 "NoWork" 332 25 124 335,
 o3 126 123 "leastdeeds.errors" 187,
 o1,
 mP P 337 25 128,
 kF "NoWork" 130 129 121 330,
 o8 130,
 o9 130]
noncomputable def MI (P:P6):List Obj:=(((MJ P).set 1 ({cls:=.none,data:=.fields #[.int 2 0,.int 0 0,.ref 20,.int 4 0,.int 0 0,.ref 33,.int 9 0,.int 0 0,.ref 52,.int 14 0,.int 0 0,.ref 71,.int 19 0,.int 0 0,.ref 90,.int 21 0,.int 0 0,.ref 102,.int 23 0,.int 0 0,.ref 114,.int 25 0,.int 0 0,.ref 126,.int 27 0,.int 0 0,.ref 138,.int 29 0,.int 0 0,.ref 150,.int 31 0,.int 0 0,.ref 162,.int 33 0,.int 0 0,.ref 174,.int 35 0,.int 0 0,.ref 186,.int 37 0,.int 0 0,.ref 198,.int 39 0,.int 0 0,.ref 210,.int 42 0,.int 0 0,.ref 222,.int 53 0,.int 0 0,.ref 229,.int 55 0,.int 0 0,.ref 236,.int 57 0,.int 0 0,.ref 243,.int 59 0,.int 0 0,.ref 250,.int 61 0,.int 0 0,.ref 255,.int 63 0,.int 0 0,.ref 260,.int 65 0,.int 0 0,.ref 267,.int 70 0,.int 0 0,.ref 274,.int 77 0,.int 0 0,.ref 281,.int 82 0,.int 0 0,.ref 288]})).set 13 (o30))++[kG,
 o4,
 o5 P 353 "NoBound" 27 140,
 o1,
 o6,
 o2 "NoBound" 348 27 136 351,
 o3 138 135 "leastdeeds.errors" 187,
 o1,
 mP P 353 27 140,
 kF "NoBound" 142 141 133 346,
 o8 142,
 o9 142,
 kG,
 o4,
 o5 P 369 "TooMany" 29 152,
 o1,
 o6,
 o2 "TooMany" 364 29 148 367,
 o3 150 147 "leastdeeds.errors" 187,
 o1,
 mP P 369 29 152,
 kF "TooMany" 154 153 145 362,
 o8 154,
 o9 154,
 kG,
 o4,
 o5 P 385 "NoPlace" 31 164,
 o1,
 o6,
 o2 "NoPlace" 380 31 160 383,
 o3 162 159 "leastdeeds.errors" 187,
 o1,
 mP P 385 31 164,
 kF "NoPlace" 166 165 157 378,
 o8 166,
 o9 166,
 kG,
 o4,
 o5 P 401 "NoDeed" 33 176,
 o1,
 o6,
 o2 "NoDeed" 396 33 172 399,
 o3 174 171 "leastdeeds.errors" 187,
 o1,
 mP P 401 33 176,
 kF "NoDeed" 178 177 169 394,
 o8 178,
 o9 178,
 kG,
 o4,
 o5 P 417 "Nothing" 35 188,
 o1,
 o6,
 o2 "Nothing" 412 35 184 415,
 o3 186 183 "leastdeeds.errors" 187,
 o1,
 mP P 417 35 188,
 kF "Nothing" 190 189 181 410,
 o8 190,
 o9 190,
 kG,
 o4,
 o5 P 433 "NoText" 37 200,
 o1,
 o6,
 o2 "NoText" 428 37 196 431,
 o3 198 195 "leastdeeds.errors" 187,
 o1,
 mP P 433 37 200,
 kF "NoText" 202 201 193 426,
 o8 202,
 o9 202,
 kG,
 o4,
 o5 P 449 "NoLine" 39 212,
 o1,
 o6,
 o2 "NoLine" 444 39 208 447,
 o3 210 207 "leastdeeds.errors" 187,
 o1,
 mP P 449 39 212,
 kF "NoLine" 214 213 205 442,
 o8 214,
 o9 214,
 o1,
 o6,
 D6 "thing" 463 "low" "high",
 o1,
 bO "is_between" 17,
 cL "is_between" 460 "is_between" 42 3 217 466 467,
 bN "is_between" 17 "leastdeeds.wholes" 458 222,
 o1,
 o6,
 n6 "words" 486 "thing",
 o1,
 bO "is_word" 25,
 cL "is_word" 483 "is_word" 53 2 224 488 489,
 bN "is_word" 25 "leastdeeds.machines" 469 229,
 o1,
 o6,
 n6 "places" 494 "thing",
 o1,
 bO "is_place" 26,
 cL "is_place" 491 "is_place" 55 2 231 496 497,
 bN "is_place" 26 "leastdeeds.machines" 469 236,
 o1,
 o6,
 rZ "thing" 502,
 o1,
 bO "is_cost" 27,
 cL "is_cost" 499 "is_cost" 57 1 238 503 504,
 bN "is_cost" 27 "leastdeeds.machines" 469 243,
 o1,
 o6,
 n6 "long" 509 "thing",
 o1,
 bO "is_tuple_of" 28,
 cL "is_tuple_of" 506 "is_tuple_of" 59 2 245 511 512,
 bN "is_tuple_of" 28 "leastdeeds.machines" 469 250,
 o1,
 o6,
 bO "is_table" 29,
 iL "is_table" 514 61 2 252 517,
 bN "is_table" 29 "leastdeeds.machines" 469 255,
 o1,
 o6,
 bO "is_double_table" 30,
 iL "is_double_table" 520 63 2 257 523,
 bN "is_double_table" 30 "leastdeeds.machines" 469 260,
 o1,
 o6,
 rY "words" 529 "places" "parts" "at" "table" "price",
 o1,
 bO "is_turn" 31,
 cL "is_turn" 526 "is_turn" 65 3 262 535 536,
 bN "is_turn" 31 "leastdeeds.machines" 469 267,
 o1,
 o6,
 MB "words" 541 "places" "parts",
 o1,
 bO "is_join" 32,
 cL "is_join" 538 "is_join" 70 3 269 548 549,
 bN "is_join" 32 "leastdeeds.machines" 469 274,
 o1,
 o6,
 rY "words" 554 "places" "parts" "at" "other" "price",
 o1,
 bO "is_move" 33,
 cL "is_move" 551 "is_move" 77 3 276 560 561,
 bN "is_move" 33 "leastdeeds.machines" 469 281,
 o1,
 o6,
 rY "words" 566 "places" "parts" "at" "word" "price",
 o1,
 bO "is_put" 34,
 cL "is_put" 563 "is_put" 82 3 283 572 573,
 bN "is_put" 34 "leastdeeds.machines" 469 288,
 MA P 575 268]
noncomputable def MH (P:P6):List Obj:=((MI P).set 1 ({cls:=.none,data:=.fields #[.int 2 0,.int 0 0,.ref 20,.int 4 0,.int 0 0,.ref 33,.int 9 0,.int 0 0,.ref 52,.int 14 0,.int 0 0,.ref 71,.int 19 0,.int 0 0,.ref 90,.int 21 0,.int 0 0,.ref 102,.int 23 0,.int 0 0,.ref 114,.int 25 0,.int 0 0,.ref 126,.int 27 0,.int 0 0,.ref 138,.int 29 0,.int 0 0,.ref 150,.int 31 0,.int 0 0,.ref 162,.int 33 0,.int 0 0,.ref 174,.int 35 0,.int 0 0,.ref 186,.int 37 0,.int 0 0,.ref 198,.int 39 0,.int 0 0,.ref 210,.int 42 0,.int 0 0,.ref 222,.int 53 0,.int 0 0,.ref 229,.int 55 0,.int 0 0,.ref 236,.int 57 0,.int 0 0,.ref 243,.int 59 0,.int 0 0,.ref 250,.int 61 0,.int 0 0,.ref 255,.int 63 0,.int 0 0,.ref 260,.int 65 0,.int 0 0,.ref 267,.int 70 0,.int 0 0,.ref 274,.int 77 0,.int 0 0,.ref 281,.int 82 0,.int 0 0,.ref 288,.int 88 0,.int 0 0,.ref 296,.int 96 0,.int 0 0,.ref 301,.int 105 0,.int 0 0,.ref 308,.int 108 0,.int 0 0,.ref 313,.int 115 0,.int 0 0,.ref 320,.int 117 0,.int 0 0,.ref 327,.int 123 0,.int 0 0,.ref 334,.int 129 0,.int 0 0,.ref 341,.int 132 0,.int 0 0,.ref 348,.int 135 0,.int 0 0,.ref 355,.int 138 0,.int 0 0,.ref 362,.int 142 0,.int 0 0,.ref 370,.int 146 0,.int 0 0,.ref 377,.int 151 0,.int 0 0,.ref 382,.int 153 0,.int 0 0,.ref 389,.int 157 0,.int 0 0,.ref 396,.int 164 0,.int 0 0,.ref 403,.int 170 0,.int 0 0,.ref 410,.int 175 0,.int 0 0,.ref 417,.int 181 0,.int 0 0,.ref 424,.int 190 0,.int 0 0,.ref 431,.int 195 0,.int 0 0,.ref 438,.int 198 0,.int 0 0,.ref 445,.int 211 0,.int 0 0,.ref 450,.int 216 0,.int 0 0,.ref 457,.int 218 0,.int 0 0,.ref 464,.int 221 0,.int 0 0,.ref 471,.int 223 0,.int 0 0,.ref 476,.int 237 0,.int 0 0,.ref 481,.int 253 0,.int 0 0,.ref 486,.int 265 0,.int 0 0,.ref 493,.int 276 0,.int 0 0,.ref 498,.int 283 0,.int 0 0,.ref 505,.int 295 0,.int 0 0,.ref 510,.int 299 0,.int 0 0,.ref 517,.int 306 0,.int 0 0,.ref 524,.int 308 0,.int 0 0,.ref 529,.int 312 0,.int 0 0,.ref 534,.int 330 0,.int 0 0,.ref 539,.int 336 0,.int 0 0,.ref 546,.int 345 0,.int 0 0,.ref 553,.int 362 0,.int 0 0,.ref 560,.int 378 0,.int 0 0,.ref 565,.int 386 0,.int 0 0,.ref 572,.int 393 0,.int 0 0,.ref 577,.int 395 0,.int 0 0,.ref 584,.int 403 0,.int 0 0,.ref 589,.int 412 0,.int 0 0,.ref 596]}))++[o1,
 o6,
 wx "words" 587 "places" "thing" "sort" "is_sort",
 o1,
 bO "is_deed" 36,
 cL "is_deed" 584 "is_deed" 88 3 291 592 593,
 bN "is_deed" 36 "leastdeeds.machines" 469 296,
 o1,
 o6,
 bO "is_machine" 37,
 iL "is_machine" 595 96 1 298 598,
 bN "is_machine" 37 "leastdeeds.machines" 469 301,
 o1,
 o6,
 rZ "thing" 604,
 o1,
 bO "need_machine" 38,
 cL "need_machine" 601 "need_machine" 105 1 303 605 606,
 bN "need_machine" 38 "leastdeeds.machines" 469 308,
 o1,
 o6,
 bO "beginnings" 39,
 iL "beginnings" 608 108 1 310 611,
 bN "beginnings" 39 "leastdeeds.machines" 469 313,
 o1,
 o6,
 n6 "machine" 617 "thing",
 o1,
 bO "is_deed_number" 40,
 cL "is_deed_number" 614 "is_deed_number" 115 2 315 619 620,
 bN "is_deed_number" 40 "leastdeeds.machines" 469 320,
 o1,
 o6,
 uB "machine" 625 "row" "place" "thing",
 o1,
 bO "need_numbers" 41,
 cL "need_numbers" 622 "need_numbers" 117 2 322 629 630,
 bN "need_numbers" 41 "leastdeeds.machines" 469 327,
 o1,
 o6,
 n6 "machine" 635 "row",
 o1,
 bO "need_row" 42,
 cL "need_row" 632 "need_row" 123 2 329 637 638,
 bN "need_row" 42 "leastdeeds.machines" 469 334,
 o1,
 o6,
 rY "deed" 645 "standing" "sort" "at" "table" "price",
 o1,
 bO "turned" 44,
 cL "turned" 642 "turned" 129 2 336 651 652,
 bN "turned" 44 "leastdeeds.runs" 640 341,
 o1,
 o6,
 MB "deed" 657 "standing" "sort",
 o1,
 bO "joined" 45,
 cL "joined" 654 "joined" 132 2 343 664 665,
 bN "joined" 45 "leastdeeds.runs" 640 348,
 o1,
 o6,
 rY "deed" 670 "standing" "sort" "at" "other" "price",
 o1,
 bO "moved" 46,
 cL "moved" 667 "moved" 135 2 350 676 677,
 bN "moved" 46 "leastdeeds.runs" 640 355,
 o1,
 o6,
 rY "deed" 682 "standing" "sort" "at" "word" "price",
 o1,
 bO "put_in" 47,
 cL "put_in" 679 "put_in" 138 2 357 688 689,
 bN "put_in" 47 "leastdeeds.runs" 640 362,
 MA P 691 342,
 o1,
 o6,
 uB "deed" 703 "standing" "new_word" "at",
 o1,
 bO "done" 49,
 cL "done" 700 "done" 142 2 365 707 708,
 bN "done" 49 "leastdeeds.runs" 640 370,
 o1,
 o6,
 wx "machine" 713 "row" "beginning" "standings" "number",
 o1,
 bO "all_standing" 50,
 cL "all_standing" 710 "all_standing" 146 3 372 718 719,
 bN "all_standing" 50 "leastdeeds.runs" 640 377,
 o1,
 o6,
 bO "ends_of" 51,
 iL "ends_of" 721 151 2 379 724,
 bN "ends_of" 51 "leastdeeds.runs" 640 382,
 o1,
 o6,
 n6 "machine" 730 "row",
 o1,
 bO "behaviour" 52,
 cL "behaviour" 727 "behaviour" 153 2 384 732 733,
 bN "behaviour" 52 "leastdeeds.runs" 640 389,
 o1,
 o6,
 Mz "machine" 740 "one" "other" "one_ends" "other_ends" "start" "one_end" "other_end",
 o1,
 bO "parted" 54,
 cL "parted" 737 "parted" 157 3 391 748 749,
 bN "parted" 54 "leastdeeds.alike" 735 396,
 o1,
 o6,
 n6 "machine" 754 "thing",
 o1,
 bO "is_row" 55,
 cL "is_row" 751 "is_row" 164 2 398 756 757,
 bN "is_row" 55 "leastdeeds.alike" 735 403,
 o1,
 o6,
 uB "machine" 762 "thing" "one" "other",
 o1,
 bO "is_rule" 56,
 cL "is_rule" 759 "is_rule" 170 2 405 766 767,
 bN "is_rule" 56 "leastdeeds.alike" 735 410,
 o1,
 o6,
 uB "machine" 772 "rules" "number" "rule",
 o1,
 bO "need_rules" 57,
 cL "need_rules" 769 "need_rules" 175 2 412 776 777,
 bN "need_rules" 57 "leastdeeds.alike" 735 417,
 o1,
 o6,
 rY "cell" 784 "at" "primes" "one" "two" "three",
 o1,
 bO "_law_spread" 59,
 cL "_law_spread" 781 "_law_spread" 181 2 419 790 791,
 bN "_law_spread" 59 d5 779 424,
 o1,
 o6,
 uB "script" 796 "cells" "k" "cell",
 o1,
 bO "_law_open" 60,
 cL "_law_open" 793 "_law_open" 190 1 426 800 801,
 bN "_law_open" 60 d5 779 431,
 o1,
 o6,
 rZ "pen" 806,
 o1,
 bO "_law_anew" 61,
 cL "_law_anew" 803 "_law_anew" 195 1 433 807 808,
 bN "_law_anew" 61 d5 779 438,
 o1,
 o6,
 wx "pen" 813 "many" "at" "cell" "found",
 o1,
 bO "_law_take" 62,
 cL "_law_take" 810 "_law_take" 198 2 440 818 819,
 bN "_law_take" 62 d5 779 445,
 o1,
 o6,
 bO "_law_sign_but" 63,
 iL "_law_sign_but" 821 211 2 447 824,
 bN "_law_sign_but" 63 d5 779 450,
 o1,
 o6,
 rZ "pen" 830,
 o1,
 bO "_law_any_sign" 64,
 cL "_law_any_sign" 827 "_law_any_sign" 216 1 452 831 832,
 bN "_law_any_sign" 64 d5 779 457,
 o1,
 o6,
 D6 "pen" 837 "text" "at",
 o1,
 bO "_law_signed" 65,
 cL "_law_signed" 834 "_law_signed" 218 2 459 840 841,
 bN "_law_signed" 65 d5 779 464,
 o1,
 o6,
 rZ "thing" 846,
 o1,
 bO "_law_is_whole" 66,
 cL "_law_is_whole" 843 "_law_is_whole" 221 1 466 847 848,
 bN "_law_is_whole" 66 d5 779 471,
 o1,
 o6,
 bO "_law_same" 67,
 iL "_law_same" 850 223 2 473 853,
 bN "_law_same" 67 d5 779 476,
 o1,
 o6,
 bO "_law_tab" 68,
 iL "_law_tab" 856 237 2 478 859,
 bN "_law_tab" 68 d5 779 481,
 o1,
 o6,
 bO "_law_deed" 69,
 iL "_law_deed" 862 253 3 483 865,
 bN "_law_deed" 69 d5 779 486,
 o1,
 o6,
 Mz "pen" 871 "words" "places" "most" "deeds" "k" "again" "deed",
 o1,
 bO "_law_machine" 70,
 cL "_law_machine" 868 "_law_machine" 265 4 488 879 880,
 bN "_law_machine" 70 d5 779 493,
 o1,
 o6,
 bO "_law_row" 71,
 iL "_law_row" 882 276 3 495 885,
 bN "_law_row" 71 d5 779 498,
 o1,
 o6,
 uB "deed" 891 "end" "here" "own",
 o1,
 bO "_law_after" 72,
 cL "_law_after" 888 "_law_after" 283 2 500 895 896,
 bN "_law_after" 72 d5 779 505,
 o1,
 o6,
 bO "_law_begins" 73,
 iL "_law_begins" 898 295 1 507 901,
 bN "_law_begins" 73 d5 779 510,
 o1,
 o6,
 wx "machine" 907 "row" "found" "end" "number",
 o1,
 bO "_law_ends" 74,
 cL "_law_ends" 904 "_law_ends" 299 2 512 912 913,
 bN "_law_ends" 74 d5 779 517,
 o1,
 o6,
 D6 "thing" 918 "low" "high",
 o1,
 bO "_law_is_in" 75,
 cL "_law_is_in" 915 "_law_is_in" 306 3 519 921 922,
 bN "_law_is_in" 75 d5 779 524,
 o1,
 o6,
 bO "_law_numbers" 76,
 iL "_law_numbers" 924 308 4 526 927,
 bN "_law_numbers" 76 d5 779 529,
 o1,
 o6,
 bO "_law_is_deed" 77,
 iL "_law_is_deed" 930 312 3 531 933,
 bN "_law_is_deed" 77 d5 779 534,
 o1,
 o6,
 bO "_law_is_machine" 78,
 iL "_law_is_machine" 936 330 1 536 939,
 bN "_law_is_machine" 78 d5 779 539,
 o1,
 o6,
 uB "machine" 945 "row" "place" "number",
 o1,
 bO "_law_row_due" 79,
 cL "_law_row_due" 942 "_law_row_due" 336 2 541 949 950,
 bN "_law_row_due" 79 d5 779 546,
 o1,
 o6,
 {cls:=.type "tuple",data:=.seq #[.str "pen" 955,.str "thing" 956,.str "deep" 957,.str "kind" 958,.str "pick" 959,.str "number" 960,.str "at" 961,.str "odd" 962,.str "some" 963]},
 o1,
 bO "_law_bent" 80,
 cL "_law_bent" 952 "_law_bent" 345 3 548 964 965,
 bN "_law_bent" 80 d5 779 553,
 o1,
 o6,
 D6 "caught" 970 "some" "words",
 o1,
 bO "_law_refusal" 81,
 cL "_law_refusal" 967 "_law_refusal" 362 1 555 973 974,
 bN "_law_refusal" 81 d5 779 560,
 o1,
 o6,
 bO "_law_alike_pairs" 82,
 iL "_law_alike_pairs" 976 378 2 562 979,
 bN "_law_alike_pairs" 82 d5 779 565,
 o1,
 o6,
 wx "pen" 985 "machine" "k" "one" "other",
 o1,
 bO "_law_unlike_pair" 83,
 cL "_law_unlike_pair" 982 "_law_unlike_pair" 386 2 567 990 991,
 bN "_law_unlike_pair" 83 d5 779 572,
 o1,
 o6,
 bO "_law_copied" 84,
 iL "_law_copied" 993 393 1 574 996,
 bN "_law_copied" 84 d5 779 577,
 o1,
 o6,
 wx "machine" 1002 "rules" "caught" "found" "e",
 o1,
 bO "_law_told" 85,
 cL "_law_told" 999 "_law_told" 395 2 579 1007 1008,
 bN "_law_told" 85 d5 779 584,
 o1,
 o6,
 bO "_law_due" 86,
 iL "_law_due" 1010 403 2 586 1013,
 bN "_law_due" 86 d5 779 589,
 o1,
 o6,
 rY "pen" 1019 "machine" "way" "one" "at" "found",
 o1,
 bO "_law_odd_rule" 87,
 cL "_law_odd_rule" 1016 "_law_odd_rule" 412 2 591 1025 1026,
 bN "_law_odd_rule" 87 d5 779 596]
noncomputable def kh:P6->OA:=λP=>[(2,{cls:=.none,data:=.dict #[]}),
 (3,{cls:=.type "dict",data:=.dict (eN P "__name__" 165 (.str d5 779)::kg3 P).toArray 92}),
 (601,iL "law" 1028 425 1 598 1031),
 (602,bN "law" 88 d5 779 601)]++List.map (λa=>(a,(MH P).getD (a-11) o1)) [23,24,40,41,43,44,59,60,62,63,81,82,93,94,105,106,117,118,129,130,141,142,153,154,165,166,177,178,189,190,201,202,213,214,222,223,229,230,236,237,243,244,250,251,255,256,260,261,267,268,274,275,281,282,288,289,290,296,297,301,302,308,309,313,314,320,321,327,328,334,335,341,342,348,349,355,356,362,363,364,370,371,377,378,382,383,389,390,396,397,403,404,410,411,417,418,424,425,431,432,438,439,445,446,450,451,457,458,464,465,471,472,476,477,481,482,486,487,493,494,498,499,505,506,510,511,517,518,524,525,529,530,534,535,539,540,546,547,553,554,560,561,565,566,572,573,577,578,584,585,589,590,596,597]
noncomputable def JC:List Addr:=[2,3,601,602]++[23,24,40,41,43,44,59,60,62,63,81,82,93,94,105,106,117,118,129,130,141,142,153,154,165,166,177,178,189,190,201,202,213,214,222,223,229,230,236,237,243,244,250,251,255,256,260,261,267,268,274,275,281,282,288,289,290,296,297,301,302,308,309,313,314,320,321,327,328,334,335,341,342,348,349,355,356,362,363,364,370,371,377,378,382,383,389,390,396,397,403,404,410,411,417,418,424,425,431,432,438,439,445,446,450,451,457,458,464,465,471,472,476,477,481,482,486,487,493,494,498,499,505,506,510,511,517,518,524,525,529,530,534,535,539,540,546,547,553,554,560,561,565,566,572,573,577,578,584,585,589,590,596,597]
def NF:∀P,JC=(kh P).map (·.1):=λ_=>by kernel_rfl
noncomputable def kq:OX:=PySem.W.view PySem.Challenge.pw_leastdeeds_k12_rules_that_hold [1,2,3,4,5,6,7,8,9,10,11,12,13,14,15,17,19,20,21,22,23,24,25,26,27,28,29,30,31,32,33,34,35,36,37,38,39,40,41,42,44,45,46,47,48,49,50,51,52,54,55,56,57,59,60,61,62,63,64,65,66,67,68,69,70,71,72,73,74,75,76,77,78,79,80,81,82,83,84,85,86,87,88]
abbrev kH:PySem.W.Hook:=PySem.W.kHook kh JC NF
def pU:List Str:=["SORTS","NEW_WORDS"]
abbrev yc:=PySem.Challenge.rw_leastdeeds_k12_rules_that_hold.row
abbrev kX:OD->Bool:=λs=>PySem.W.xlAt kq [] s&&PySem.W.recOk (PySem.W.RowW.records yc.toRowW) s
noncomputable def Em (P:P6)(os:Py):PD:={HD.treeOf ((((PySem.W.boot_heap P).objs.toList.set 3 ({cls:=.type "dict",data:=.dict (eN P "__name__" 165 (.str "leastdeeds.errors" 187)::MG P).toArray 17})))++MJ P) 0 .nil,133,{},#[],{},346,os}
noncomputable def El (P:P6)(os:Py):PD:={HD.treeOf ((((PySem.W.boot_heap P).objs.toList.set 3 ({cls:=.type "dict",data:=.dict (eN P "__name__" 165 (.str "leastdeeds.machines" 469)::MF P).toArray 42})))++MI P) 0 .nil,291,{},#[],{},584,os}
noncomputable def Ek (P:P6)(os:Py):PD:={HD.treeOf ((((PySem.W.boot_heap P).objs.toList.set 3 ({cls:=.type "dict",data:=.dict (eN P "__name__" 165 (.str d5 779)::ME P).toArray 91})))++MH P) 0 .nil,598,{},#[],{},1028,os}
noncomputable def kE:Env:={scope:=PySem.Challenge.pw_leastdeeds_k12_rules_that_hold.main.scope,locals:=mainNs,globals:=mainNs,cells:=[],code:=.ref 13,frame:=some 14}
noncomputable def kP (w:O6)(os:Py):=HD.wL treeTable PySem.Challenge.pw_leastdeeds_k12_rules_that_hold w 11 (some (.ref 6)) 12 (HD.yw w.params os) (PySem.W.topStub PySem.Challenge.pw_leastdeeds_k12_rules_that_hold)
noncomputable def Eg (w:O6)(os:Py):=(kP w os).bind λx=>HD.lW treeTable PySem.Challenge.pw_leastdeeds_k12_rules_that_hold w 11 (some (.ref 6)) 1783 x.1 (PySem.W.piecesOf ((PySem.W.behindTheImports PySem.Challenge.pw_leastdeeds_k12_rules_that_hold).take 9) kE (.body (PySem.W.behindTheImports PySem.Challenge.pw_leastdeeds_k12_rules_that_hold) kE) {0,0,0,0} [PySem.W.topFrame {0,0,0,0}])
noncomputable def Ed (w:O6)(os:Py):Option (Flow×PD×Code×Pos):=some (.next,Em w.params os,(.body (PySem.W.behindTheImports PySem.Challenge.pw_leastdeeds_k12_rules_that_hold) kE),{25,0,26,8})
noncomputable def Ef (w:O6)(os:Py):=HD.lW treeTable PySem.Challenge.pw_leastdeeds_k12_rules_that_hold w 11 (some (.ref 6)) 1977 (Em w.params os) (PySem.W.piecesOf (((PySem.W.behindTheImports PySem.Challenge.pw_leastdeeds_k12_rules_that_hold).drop 9).take 27) kE (.body (PySem.W.behindTheImports PySem.Challenge.pw_leastdeeds_k12_rules_that_hold) kE) {25,0,26,8} [PySem.W.topFrame {0,0,0,0}])
noncomputable def Ec (w:O6)(os:Py):Option (Flow×PD×Code×Pos):=some (.next,El w.params os,(.body (PySem.W.behindTheImports PySem.Challenge.pw_leastdeeds_k12_rules_that_hold) kE),{87,0,87,5})
noncomputable def Ee (w:O6)(os:Py):=HD.lW treeTable PySem.Challenge.pw_leastdeeds_k12_rules_that_hold w 11 (some (.ref 6)) 1557 (El w.params os) (PySem.W.piecesOf ((((PySem.W.behindTheImports PySem.Challenge.pw_leastdeeds_k12_rules_that_hold).drop 9).drop 27).take 52) kE (.body (PySem.W.behindTheImports PySem.Challenge.pw_leastdeeds_k12_rules_that_hold) kE) {87,0,87,5} [PySem.W.topFrame {0,0,0,0}])
noncomputable def Eb (w:O6)(os:Py):Option (Flow×PD×Code×Pos):=some (.next,Ek w.params os,(.body (PySem.W.behindTheImports PySem.Challenge.pw_leastdeeds_k12_rules_that_hold) kE),{412,0,424,90})
noncomputable def kR (w:O6)(os:Py):=HD.iN treeTable PySem.Challenge.pw_leastdeeds_k12_rules_that_hold w 11 (some (.ref 6)) 5476 (Ek w.params os) (PySem.W.restOf ((((PySem.W.behindTheImports PySem.Challenge.pw_leastdeeds_k12_rules_that_hold).drop 9).drop 27).drop 52) kE (.body (PySem.W.behindTheImports PySem.Challenge.pw_leastdeeds_k12_rules_that_hold) kE) {412,0,424,90} [PySem.W.topFrame {0,0,0,0}])
abbrev Jx (P:P6)(s:PD):=HD.l4 PySem.Challenge.pw_leastdeeds_k12_rules_that_hold kq pU kX true (PySem.W.boot_heap P) (λs=>JC.map s.heap.get?) s.abs
def Ej (w:O6)(os:Py):=(kR w os).map λs=>(Jx w.params s).1
noncomputable def Ei (w:O6)(os:Py):=(kR w os).map λs=>(Jx w.params s).2.1
noncomputable def Eh (w:O6)(os:Py):=(kR w os).map λs=>(Jx w.params s).2.2
def Er (w:O6):=some true
def Ep (w:O6):=some (PySem.W.openGood kq pU)
def Eo (w:O6):=some ((kh w.params).map λp=>some p.2)
noncomputable def _root_.PySem.W.Fast.tw9690949461866578230:OX:=PySem.Challenge.pw_leastdeeds_k12_rules_that_hold
def _root_.PySem.W.Fast.te9690949461866578230:PySem.Challenge.pw_leastdeeds_k12_rules_that_hold=PySem.W.Fast.tw9690949461866578230:=rfl
def _root_.PySem.W.Fast.tw7218829874013591153:P6->OA:=K12.kh
def _root_.PySem.W.Fast.te7218829874013591153:K12.kh=PySem.W.Fast.tw7218829874013591153:=rfl
noncomputable def _root_.PySem.W.Fast.tw11059612911569170292:P6->Py->PD:=K12.Em
def _root_.PySem.W.Fast.te11059612911569170292:K12.Em=PySem.W.Fast.tw11059612911569170292:=rfl
noncomputable def _root_.PySem.W.Fast.tw10257610766184466235:P6->Py->PD:=K12.El
def _root_.PySem.W.Fast.te10257610766184466235:K12.El=PySem.W.Fast.tw10257610766184466235:=rfl
noncomputable def _root_.PySem.W.Fast.tw11485872333794823627:P6->Py->PD:=K12.Ek
def _root_.PySem.W.Fast.te11485872333794823627:K12.Ek=PySem.W.Fast.tw11485872333794823627:=rfl
def NO:Ej=Ej:=rfl
name_quick kq1_12 for Ej by NO
def NN:Ei=Ei:=rfl
name_quick kq2_12 for Ei by NN
def NQ:Ep=Ep:=rfl
name_quick kg2_12 for Ep by NQ
def NM:Eh=Eh:=rfl
name_quick kq3_12 for Eh by NM
def NP:Eo=Eo:=rfl
name_quick kg3_12 for Eo by NP
def NL:Eg=Eg:=rfl
name_quick kua12 for Eg by NL
def NI:Ed=Ed:=rfl
name_quick kva12 for Ed by NI
def NK:Ef=Ef:=rfl
name_quick kub12 for Ef by NK
def NH:Ec=Ec:=rfl
name_quick kvb12 for Ec by NH
def NJ:Ee=Ee:=rfl
name_quick kuc12 for Ee by NJ
def NG:Eb=Eb:=rfl
name_quick kvc12 for Eb by NG
def Aw:∀(w:O6) (os:Py),PySem.W.Fast.kua12 (w.withFollow "special-get-raises" false) os=PySem.W.Fast.kva12 (w.withFollow "special-get-raises" false) os:=λw os=>by kernel_rfl
def CD:∀(w:O6) (os:Py),PySem.W.Fast.kua12 (w.withFollow "special-get-raises" true) os=PySem.W.Fast.kva12 (w.withFollow "special-get-raises" true) os:=λw os=>by kernel_rfl
def ka0:∀(w:O6) (os:Py),Eg w os=Ed w os:=λw os=>by
 rw[PySem.W.Fast.kua12_eq,PySem.W.Fast.kva12_eq];exact PySem.W.byRow2 "special-get-raises" (P:=λw=>PySem.W.Fast.kua12 w os=PySem.W.Fast.kva12 w os) (λw=>Aw w os) (λw=>CD w os) w
def Av:∀(w:O6) (os:Py),PySem.W.Fast.kub12 (w.withFollow "special-get-raises" false) os=PySem.W.Fast.kvb12 (w.withFollow "special-get-raises" false) os:=λw os=>by kernel_rfl
def CC:∀(w:O6) (os:Py),PySem.W.Fast.kub12 (w.withFollow "special-get-raises" true) os=PySem.W.Fast.kvb12 (w.withFollow "special-get-raises" true) os:=λw os=>by kernel_rfl
def ka1:∀(w:O6) (os:Py),Ef w os=Ec w os:=λw os=>by
 rw[PySem.W.Fast.kub12_eq,PySem.W.Fast.kvb12_eq];exact PySem.W.byRow2 "special-get-raises" (P:=λw=>PySem.W.Fast.kub12 w os=PySem.W.Fast.kvb12 w os) (λw=>Av w os) (λw=>CC w os) w
def Au:∀(w:O6) (os:Py),PySem.W.Fast.kuc12 (w.withFollow "special-get-raises" false) os=PySem.W.Fast.kvc12 (w.withFollow "special-get-raises" false) os:=λw os=>by kernel_rfl
def CB:∀(w:O6) (os:Py),PySem.W.Fast.kuc12 (w.withFollow "special-get-raises" true) os=PySem.W.Fast.kvc12 (w.withFollow "special-get-raises" true) os:=λw os=>by kernel_rfl
def ka2:∀(w:O6) (os:Py),Ee w os=Eb w os:=λw os=>by
 rw[PySem.W.Fast.kuc12_eq,PySem.W.Fast.kvc12_eq];exact PySem.W.byRow2 "special-get-raises" (P:=λw=>PySem.W.Fast.kuc12 w os=PySem.W.Fast.kvc12 w os) (λw=>Au w os) (λw=>CB w os) w
def Ar:∀(w:O6) (os:Py),PySem.W.Fast.kq1_12 (w.withFollow "special-get-raises" false) os=Er (w.withFollow "special-get-raises" false):=λw os=>by kernel_rfl
def CA:∀(w:O6) (os:Py),PySem.W.Fast.kq1_12 (w.withFollow "special-get-raises" true) os=Er (w.withFollow "special-get-raises" true):=λw os=>by kernel_rfl
def kl1:∀(w:O6) (os:Py),Ej w os=Er w:=λw os=>by
 rw[PySem.W.Fast.kq1_12_eq];exact PySem.W.byRow2 "special-get-raises" (P:=λw=>PySem.W.Fast.kq1_12 w os=Er w) (λw=>Ar w os) (λw=>CA w os) w
def Aq:∀(w:O6) (os:Py),PySem.W.Fast.kq2_12 (w.withFollow "special-get-raises" false) os=PySem.W.Fast.kg2_12 (w.withFollow "special-get-raises" false):=λw os=>by kernel_rfl
def Cz:∀(w:O6) (os:Py),PySem.W.Fast.kq2_12 (w.withFollow "special-get-raises" true) os=PySem.W.Fast.kg2_12 (w.withFollow "special-get-raises" true):=λw os=>by kernel_rfl
def kl2:∀(w:O6) (os:Py),Ei w os=Ep w:=λw os=>by
 rw[PySem.W.Fast.kq2_12_eq,PySem.W.Fast.kg2_12_eq];exact PySem.W.byRow2 "special-get-raises" (P:=λw=>PySem.W.Fast.kq2_12 w os=PySem.W.Fast.kg2_12 w) (λw=>Aq w os) (λw=>Cz w os) w
def Ap:∀(w:O6) (os:Py),PySem.W.Fast.kq3_12 (w.withFollow "special-get-raises" false) os=PySem.W.Fast.kg3_12 (w.withFollow "special-get-raises" false):=λw os=>by kernel_rfl
def Cy:∀(w:O6) (os:Py),PySem.W.Fast.kq3_12 (w.withFollow "special-get-raises" true) os=PySem.W.Fast.kg3_12 (w.withFollow "special-get-raises" true):=λw os=>by kernel_rfl
def kl3:∀(w:O6) (os:Py),Eh w os=Eo w:=λw os=>by
 rw[PySem.W.Fast.kq3_12_eq,PySem.W.Fast.kg3_12_eq];exact PySem.W.byRow2 "special-get-raises" (P:=λw=>PySem.W.Fast.kq3_12 w os=PySem.W.Fast.kg3_12 w) (λw=>Ap w os) (λw=>Cy w os) w
def kp:∀(w:O6) (os:Py),(kP w os).map (·.2)=some {denote treeTable (.body (PySem.W.behindTheImports PySem.Challenge.pw_leastdeeds_k12_rules_that_hold) kE),(.body (PySem.W.behindTheImports PySem.Challenge.pw_leastdeeds_k12_rules_that_hold) kE),{0,0,0,0},[PySem.W.topFrame {0,0,0,0}]}:=λw os=>by kernel_rfl
def Ls:PySem.W.LeftO yc.prog kq pU kX kH.obs kH.val 10806:=HD.vJ (m0:=11) (ann:=some (.ref 6)) (PySem.W.boot_open `r `d (λ_=>rfl)) (λw=>by kernel_rfl) λw os=>HD.AS (J:=9) (kp w os) (by kernel_rfl) (ka0 w os) (HD.ve (J:=27) (ka1 w os) (HD.ve (J:=52) (ka2 w os) (HD.AR (kl1 w os) (kl2 w os) (kl3 w os))))
end K12
namespace L2
open PySem PySem.Spec PyProof.Rows
abbrev Key:=Sum Int Str
noncomputable def s8:Key->Oz->Bool
 |.inl k,v=>Value.isInt k v
 |.inr x,v=>Value.isStrOf x v
noncomputable def ND (w:O6):Key->Int
 |.inl k=>hashInt k
 |.inr x=>hashStr w x
def dH:∀{k:Key}{v:Oz},s8 k v=true->(∃i t,k=Sum.inl i/\v=Value.int i t)\/(∃x t,k=Sum.inr x/\v=Value.str x t)
 | .inl i, v, h => by
   obtain⟨t,e⟩:=Value.isInt_shape (k:=i) (v:=v) h;exact .inl ⟨i,t,rfl,e⟩
 | .inr x, v, h => by
   obtain⟨t,e⟩:=Value.isStrOf_shape (x:=x) (v:=v) h;exact .inr ⟨x,t,rfl,e⟩
def kJ (x:Str)(t:Tok):s8 (.inr x) (.str x t)=true:=by simp[s8,Value.isStrOf]
def JB (a b:Int):decide ((Sum.inl a:Key)=Sum.inl b)=(a==b):=by
 by_cases e:a=b
 ·subst e;simp
 ·have h:¬ (Sum.inl a:Key)=Sum.inl b:=λq=>e (Sum.inl.inj q);rw[decide_eq_false h];exact(PJ.mpr e).symm
def Jy (a b:Str):decide ((Sum.inr a:Key)=Sum.inr b)=decide (a=b):=by
 by_cases e:a=b
 ·subst e;simp
 ·have h:¬ (Sum.inr a:Key)=Sum.inr b:=λq=>e (Sum.inr.inj q);rw[decide_eq_false h,decide_eq_false e]
def JA (a:Int)(b:Str):decide ((Sum.inl a:Key)=Sum.inr b)=false:=decide_eq_false (λq=>nomatch q)
def Jz (a:Str)(b:Int):decide ((Sum.inr a:Key)=Sum.inl b)=false:=decide_eq_false (λq=>nomatch q)
noncomputable def lD (prog:OX)(w:O6):PySem.KeyKind prog w Key where
 is:=s8
 hash:=ND w
 inj:=λv a b ha hb=>by
  rcases dH ha with⟨i,t,rfl,rfl⟩|⟨x,t,rfl,rfl⟩
  ·rcases dH hb with⟨j,u,rfl,e⟩|⟨y,u,rfl,e⟩
   ·injection e with e1 _;rw[e1]
   ·exact nomatch e
  ·rcases dH hb with⟨j,u,rfl,e⟩|⟨y,u,rfl,e⟩
   ·exact nomatch e
   ·injection e with e1 _;rw[e1]
 byValue:=λk v h=>by
  rcases dH h with⟨i,t,rfl,rfl⟩|⟨x,t,rfl,rfl⟩<;>rfl
 pyHash:=λhv h=>by
  rcases dH hv with⟨i,t,rfl,rfl⟩|⟨x,t,rfl,rfl⟩
  ·exact wpAny_pyHash_int h
  ·exact wpAny_pyHash_str h
 eqBool:=λhu hv h=>by
  rcases dH hu with⟨i,t,rfl,rfl⟩|⟨x,t,rfl,rfl⟩
  ·rcases dH hv with⟨j,u,rfl,rfl⟩|⟨y,u,rfl,rfl⟩
   ·rw[JB] at h;exact wpAny_eqBool_int h
   ·rw[JA] at h;exact SeqAt.EqAt.int_str i t y u _ _ _ _ h
  ·rcases dH hv with⟨j,u,rfl,rfl⟩|⟨y,u,rfl,rfl⟩
   ·rw[Jz] at h;exact SeqAt.EqAt.str_int x t j u _ _ _ _ h
   ·rw[Jy] at h;exact wpAny_eqBool_str h
 «strs»:=λk x t v h=>by
  rcases dH h with⟨i,u,rfl,e⟩|⟨y,u,rfl,e⟩
  ·exact nomatch e
  ·injection e with e1 _
   subst e1;cases v<;>rfl
inductive V where
 |non|bl (b:Bool)|int (i:Int)|str (x:Str)|byt (b:Array UInt8)|flt (b:UInt64)|ref (a:Addr)|ty (n:String)
 deriving DecidableEq
noncomputable def RelV:V->Oz->Prop
 |.non,u=>u=Value.none
 |.bl b,u=>u=Value.bool b
 |.int i,u=>∃t,u=Value.int i t
 |.str x,u=>∃t,u=Value.str x t
 |.byt b,u=>∃t,u=Value.bytes b t
 |.flt b,u=>∃t,u=Value.float b t
 |.ref a,u=>u=Value.ref a
 |.ty n,u=>u=Value.type n
abbrev Vals:List V->List Oz->Prop:=QG RelV
def Vals.length {xs:List V}{us:List Oz}(r:Vals xs us):xs.length=us.length:=Paired.length r
def Vals.get:∀{xs:List V}{us:List Oz}{i:Nat}{x:V},Vals xs us->xs[i]?=some x->∃u,us[i]?=some u/\RelV x u
 |_,_,_,_,.nil,e=>by simp at e
 |_,_,0,_,.cons r _,e=>by simp at e;subst e;exact{_,rfl,r}
 | _, _, i + 1, x, .cons _ t, e => by
   obtain⟨u,h1,h2⟩:=Vals.get (i:=i) (x:=x) t (by simpa using e)
   exact{u,by simpa using h1,h2}
def Vals.set {x:V}{u:Oz}(r:RelV x u):∀{xs:List V}{us:List Oz} (i:Nat),Vals xs us->Vals (xs.set i x) (us.set i u)
 |_,_,_,.nil=>.nil
 |_,_,0,.cons _ t=>.cons r t
 |_,_,i+1,.cons q t=>.cons q (Vals.set r i t)
def Vals.append:∀{xs ys:List V}{us ws:List Oz},Vals xs us->Vals ys ws->Vals (xs++ys) (us++ws)
 |_,_,_,_,.nil,s=>s
 |_,_,_,_,.cons r t,s=>.cons r (Vals.append t s)
def Vals.take:∀{xs:List V}{us:List Oz} (n:Nat),Vals xs us->Vals (xs.take n) (us.take n)
 |_,_,0,_=>.nil
 |_,_,_+1,.nil=>.nil
 |_,_,n+1,.cons r t=>.cons r (Vals.take n t)
def Vals.drop:∀{xs:List V}{us:List Oz} (n:Nat),Vals xs us->Vals (xs.drop n) (us.drop n)
 |_,_,0,r=>r
 |_,_,_+1,.nil=>.nil
 |_,_,n+1,.cons _ t=>Vals.drop n t
noncomputable def rA:Option V->Option Oz->Prop
 |some v,some u=>RelV v u
 |none,none=>True
 |_,_=>False
noncomputable def KV {κ:Type}:List (κ×V)->List (κ×Oz)->Prop:=QG λ(p:κ×V) (q:κ×Oz)=>p.1=q.1/\RelV p.2 q.2
def kV:Key->V
 |.inl i=>.int i
 |.inr x=>.str x
inductive HO where
 |lst (xs:List V)
 |tup (xs:List V)
 |dK (kvs:List (Key×V))|dT (kvs:List (List Key×V))
 |set (S:Int->Bool) (n:Nat)
 |ins (C dx:Addr) (fs:List (Str×V))
 |own (x:Addr)
 |xd (fs:List (Str×V))
 |met (f x:Addr)
 |rng (lo hi:Int)
 |frz (o:Obj) (u:HO)
 |tbl (ps:Array Oz)
 |ext (φ:Heap->Prop)
abbrev Hp:=Addr->Option HO
noncomputable def upd (H:Hp)(a:Addr)(o:HO):Hp:=λb=>if b=a then some o else H b
def bW {H:Hp}{a:Addr}{o:HO}:upd H a o a=some o:=by unfold upd;rw[if_pos rfl]
def aN {H:Hp}{a b:Addr}{o:HO}(h:b≠a):upd H a o b=H b:=by unfold upd;rw[if_neg h]
def bc {H:Hp}{a b:Addr}{o:HO}(h:H a=some o)(h':H b=none):a≠b:=by
 intro e;subst e;rw[h] at h';cases h'
section
variable(P:OX)(w:O6)
noncomputable def dg (H:Hp)(h:Heap)(a:Addr):HO->Prop
 |.lst xs=>xs.length<=sizeLine/\∃(its:List Oz) (n:Nat),Vals xs its/\h.get? a=some {cls:=.type "list",data:=.seq its.toArray n}
 |.tup xs=>xs.length<=sizeLine/\∃its:List Oz,Vals xs its/\IsTup h a its.toArray
 |.dK kvs=>kvs.length<=sizeLine/\(a==sysModules)=false/\∃vs,KV kvs vs/\h.DictOf (lD P w) a vs
 |.dT kvs=>kvs.length<=sizeLine/\(a==sysModules)=false/\∃xs:List (List Key×Addr×Oz),
  QG (λ(p:List Key×V) (q:List Key×Addr×Oz)=>p.1=q.1/\H q.2.1=some (.tup (p.1.map kV))/\RelV p.2 q.2.2) kvs xs/\
  ∃o es ep,h.get? a=some o/\o.ExactDict/\o.data=.dict es ep/\es.toList=xs.map (entryOfKey (tupleKind (lD P w)))/\(xs.map (·.1)).Nodup
 |.set S n=>h.SetOf (intKind P w) a S n
 |.ins C dx fs=>H dx=some (.own a)/\fs.length<=1000/\dx≠a/\h.get? a=some (PySem.W.instObj C dx)/\
  ∃mA,h.Ns1 dx mA/\(∀f,rA (fs.lookup f) (mA f))/\PySem.Within mA (fs.map (·.1))
 |.own _=>∃o,h.get? a=some o
 |.xd fs=>∃mA,h.Ns1 a mA/\∀f,rA (fs.lookup f) (mA f)
 |.rng lo hi=>∃t u v,h.get? a=some {cls:=.type "range",data:=.fields #[.int lo t,.int hi u,.int 1 v]}
 |.frz o u=>h.get? a=some o/\dg H h a u
 |.tbl ps=>h.get? a=some {cls:=.none,data:=.fields ps}
 |.met f x=>h.get? a=some (PySem.W.methodObj (.ref f) (.ref x))
 |.ext φ=>φ h/\(∃o,h.get? a=some o)/\∀h1 h2:Heap,φ h1->(∀o,h1.get? a=some o->h2.get? a=some o)->φ h2
def fb (H:Hp)(h:Heap):Prop:=∀a o,H a=some o->dg P w H h a o
end
section
variable{P:OX}{w:O6}{H H':Hp}{h h':Heap}{a:Addr}{o:HO}
def dg.lt (x:dg P w H h a o):a<h.objs.size:=by
 cases o with
 |lst xs=>obtain⟨_,_,_,_,e⟩:=x;exact OQ e
 |tup xs=>obtain⟨_,_,_,p⟩:=x;exact p.lt
 |dK kvs=>obtain⟨_,_,_,_,o,_,_,e,_⟩:=x;exact OQ e
 |dT kvs=>obtain⟨_,_,_,_,o,_,_,e,_⟩:=x;exact OQ e
 |set S n=>obtain⟨o,_,_,_,e,_⟩:=x;exact OQ e
 |ins C dx fs=>obtain⟨_,_,_,e,_⟩:=x;exact OQ e
 |own y=>obtain⟨_,e⟩:=x;exact OQ e
 |xd fs=>obtain⟨_,⟨_,_,_,e,_⟩,_⟩:=x;exact OQ e
 |rng lo hi=>obtain⟨_,_,_,e⟩:=x;exact OQ e
 |frz ob u=>obtain⟨e,_⟩:=x;exact OQ e
 |tbl ps=>exact OQ (show h.get? a=some _ from x)
 |met f y=>exact OQ (show h.get? a=some _ from x)
 |ext φ=>obtain⟨_,⟨_,e⟩,_⟩:=x;exact OQ e
def QG.mapP {α β:Type}{F G:α->β->Prop}:∀{l₁:List α}{l₂:List β},QG F l₁ l₂->(∀a b,F a b->G a b)->QG G l₁ l₂
 |_,_,.nil,_=>.nil
 |_,_,.cons r t,f=>.cons (f _ _ r) (QG.mapP t f)
def dg.stay (x:dg P w H h a o)(k:∀b u,(b=a\/H b=some (.own a))->h.get? b=some u->h'.get? b=some u)
 (ho:∀b,H b=some (.own a)->H' b=some (.own a)) (ht:∀b xs,H b=some (.tup xs)->H' b=some (.tup xs)):dg P w H' h' a o:=by
 induction o with
 |lst xs=>obtain⟨z,its,n,r,e⟩:=x;exact{z,its,n,r,k _ _ (.inl rfl) e}
 |tup xs=>obtain⟨z,its,r,ob,e,c⟩:=x;exact{z,its,r,ob,k _ _ (.inl rfl) e,c}
 |dK kvs=>obtain⟨z,y,vs,r,ob,es,ep,e,c⟩:=x;exact{z,y,vs,r,ob,es,ep,k _ _ (.inl rfl) e,c}
 | dT kvs =>
   obtain⟨z,y,xs,r,ob,es,ep,e,c⟩:=x;exact{z,y,xs,QG.mapP r λp q z=>{z.1,ht _ _ z.2.1,z.2.2},ob,es,ep,k _ _ (.inl rfl) e,c}
 |set S n=>obtain⟨ob,es,ep,t,e,c⟩:=x;exact{ob,es,ep,t,k _ _ (.inl rfl) e,c}
 | ins C dx fs =>
   obtain⟨d,z,ne,e,mA,⟨od,es,ep,e2,c⟩,r⟩:=x;exact{ho _ d,z,ne,k _ _ (.inl rfl) e,mA,{od,es,ep,k _ _ (.inr d) e2,c},r}
 |own y=>obtain⟨ob,e⟩:=x;exact{ob,k _ _ (.inl rfl) e}
 |xd fs=>obtain⟨mA,⟨od,es,ep,e,c⟩,r⟩:=x;exact{mA,{od,es,ep,k _ _ (.inl rfl) e,c},r}
 |rng lo hi=>obtain⟨t,u,v,e⟩:=x;exact{t,u,v,k _ _ (.inl rfl) e}
 |frz ob u ih=>obtain⟨e,q⟩:=x;exact{k _ _ (.inl rfl) e,ih q}
 | tbl ps =>
   have e:h.get? a=some {cls:=.none,data:=.fields ps}:=x;show h'.get? a=some {cls:=.none,data:=.fields ps};exact k a _ (.inl rfl) e
 | met f y =>
   have e:h.get? a=some (PySem.W.methodObj (.ref f) (.ref y)):=x;show h'.get? a=some (PySem.W.methodObj (.ref f) (.ref y));exact k a _ (.inl rfl) e
 |ext φ=>obtain⟨p,⟨o,e⟩,st⟩:=x;exact{st _ _ p λo q=>k _ _ (.inl rfl) q,{o,k _ _ (.inl rfl) e},st}
def fb.lt (x:fb P w H h)(e:H a=some o):a<h.objs.size:=(x a o e).lt
def fb.fresh (x:fb P w H h)(e:h.objs.size<=a):H a=none:=by
 cases q:H a with
 |none=>rfl
 |some u=>exact absurd (OY (x.lt q) e) (PR _)
def fb.kept (x:fb P w H h)(k:∀b u,h.get? b=some u->h'.get? b=some u):fb P w H h':=λa o e=>
 (x a o e).stay (λb u _ q=>k b u q) (λ_ q=>q) λ_ _ q=>q
def fb.laid (x:fb P w H h)(k:∀b u,h.get? b=some u->h'.get? b=some u)(hp:h.objs.size<=a)(new:dg P w (upd H a o) h' a o):fb P w (upd H a o) h':=λb u e=>by
 have hn:=x.fresh hp;by_cases hb:b=a
 ·subst hb;rw[bW] at e;cases e;exact new
 ·rw[aN hb] at e;exact(x b u e).stay (λc v _ q=>k c v q) (λc q=>by rw[aN (bc q hn)];exact q) λc xs q=>by rw[aN (bc q hn)];exact q
end
noncomputable def Rd (H:Hp)(a:Addr)(u:HO):Prop:=H a=some u\/∃o,H a=some (.frz o u)
def Rd.ok {P:OX}{w:O6}{H:Hp}{h:Heap}{a:Addr}{u:HO}(r:Rd H a u)(x:fb P w H h):dg P w H h a u:=by
 rcases r with r|⟨o,r⟩
 ·exact x a u r
 ·obtain⟨_,q⟩:=x a _ r;exact q
noncomputable def EL:Option HO->Prop
 |some (.lst _)=>True
 |some (.dK _)=>True
 |some (.dT _)=>True
 |some (.set _ _)=>True
 |some (.ins _ _ _)=>True
 |some (.ext _)=>True
 |_=>False
section
variable{P:OX}{w:O6}{H:Hp}{h h':Heap}{x e:Addr}{o':HO}
def fb.write (ok:fb P w H h)(mu:EL (H x))(he:e=x\/H e=some (.own x))(k:∀b u,b≠e->h.get? b=some u->h'.get? b=some u)(heo:∃u,h'.get? e=some u)
 (new:dg P w (upd H x o') h' x o'):fb P w (upd H x o') h':=λb u q=>by
 have nown:∀c y,H c=some (.own y)->c≠x:=λc y r z=>by subst z;rw[r] at mu;exact mu
 have ntup:∀c xs,H c=some (.tup xs)->c≠x:=λc xs r z=>by subst z;rw[r] at mu;exact mu
 by_cases hb:b=x
 ·subst hb;rw[bW] at q;cases q;exact new
 ·rw[aN hb] at q;by_cases hbe:b=e
  ·have q':H b=some (.own x):=by
    rcases he with z|z
    ·exact absurd (hbe.trans z) hb
    ·rw[hbe];exact z
   rw[q] at q';cases q';obtain⟨v,hv⟩:=heo;exact{v,by rw[hbe];exact hv}
  ·refine(ok b u q).stay (λc v hc r=>k c v ?_ r) (λc r=>by rw[aN (nown c b r)];exact r) λc xs r=>by rw[aN (ntup c xs r)];exact r
   rcases hc with rfl|hc
   ·exact hbe
   ·rintro rfl;rcases he with z|z
    ·exact nown c b hc z
    ·rw[hc] at z;cases z;exact hb rfl
end
structure Un (fs ex:List Addr) (H H':Hp) (h h':Heap):Prop where
 keep:∀b o,h.get? b=some o->H b=none->b∉fs->b∉ex->h'.get? b=some o
 slot:∀b o,h.get? b=some o->H b=none->b∈fs->b∉ex->∃sl,h'.get? b=some {o with slots:=sl}
 free:∀b o,h.get? b=some o->H b=none->b∉ex->H' b=none
 there:∀b o,h.get? b=some o->b∉ex->∃o',h'.get? b=some o'
 tups:∀b xs,H b=some (.tup xs)->H' b=some (.tup xs)
 frzs:∀b o u,H b=some (.frz o u)->H' b=some (.frz o u)
 tbls:∀b ps,H b=some (.tbl ps)->∃more,H' b=some (.tbl (ps++more))
section
variable{fs fs' ex ex':List Addr}{H H1 H2:Hp}{h h1 h2 h':Heap}{a x e:Addr}{o:HO}
def Un.any (u:Un fs ex H H1 h h1){b:Addr}{ob:Obj}(q:h.get? b=some ob)(n:H b=none)(hx:b∉ex):∃sl,h1.get? b=some {ob with slots:=sl}:=by
 by_cases hb:b∈fs
 ·exact u.slot b ob q n hb hx
 ·exact{ob.slots,u.keep b ob q n hb hx}
def Un.kept (k:∀b u,h.get? b=some u->h'.get? b=some u):Un fs ex H H h h':=
 {λb ob q _ _ _=>k b ob q,λb ob q _ _ _=>{ob.slots,k b ob q},λ_ _ _ n _=>n,λb ob q _=>{ob,k b ob q},λ_ _ q=>q,λ_ _ _ q=>q,λ_ ps q=>{#[],by rw[q];simp}}
def Un.refl:Un fs ex H H h h:=Un.kept λ_ _ q=>q
def Un.laid (k:∀b u,h.get? b=some u->h'.get? b=some u)(hp:h.objs.size<=a)(hn:H a=none):Un fs ex H (upd H a o) h h' where
 keep:=λb u q _ _ _=>k b u q
 slot:=λb u q _ _ _=>{u.slots,k b u q}
 free:=λb u q n _=>by rw[aN (PK (OY (OQ q) hp))];exact n
 there:=λb u q _=>{u,k b u q}
 tups:=λb xs q=>by rw[aN (bc q hn)];exact q
 frzs:=λb u xs q=>by rw[aN (bc q hn)];exact q
 tbls:=λb ps q=>{#[],by rw[aN (bc q hn),q];simp}
def Un.write (mu:EL (H x))(he:e=x\/H e=some (.own x))(k:∀b u,b≠e->h.get? b=some u->h'.get? b=some u)(heo:∃u,h'.get? e=some u):Un fs ex H (upd H x o) h h':=by
 have hx:∀b,H b=none->b≠x:=λb n z=>by subst z;rw[n] at mu;exact mu
 have hb:∀b,H b=none->b≠e:=λb n z=>by
  subst z;rcases he with r|r
  ·exact hx b n r
  ·rw[n] at r;cases r
 have hm:∀b u,H b=some u->¬ EL (some u)->b≠x:=λb u q nm z=>by subst z;rw[q] at mu;exact nm mu
 refine{λb u q n _ _=>k b u (hb b n) q,λb u q n _ _=>{u.slots,k b u (hb b n) q},λb u q n _=>by rw[aN (hx b n)];exact n,λb u q _=>?_,
  λb xs q=>by rw[aN (hm b _ q λz=>z)];exact q,λb u xs q=>by rw[aN (hm b _ q λz=>z)];exact q,λb ps q=>{#[],by rw[aN (hm b _ q λz=>z),q];simp}}
 by_cases hbe:b=e
 ·subst hbe;exact heo
 ·exact{u,k b u hbe q}
end
noncomputable def DJ (h:Heap)(H:Hp):List Addr:=(List.range h.objs.size).filter λa=>(H a).isSome
def ma (h:Heap)(H:Hp):Heap:=PySem.W.hideAll h (DJ h H)
def AE (h:Heap)(H:Hp):(ma h H).objs.size=h.objs.size:=PySem.W.hideAll_size _ _
def CG {h:Heap}{H:Hp}{b:Addr}{o:Obj}(e:h.get? b=some o)(n:H b=none):(ma h H).get? b=some o:=
 PySem.W.hideAll_get _ e λhm=>by
  have q:(H b).isSome=true:=(List.mem_filter.mp hm).2;rw[n] at q;simp at q
def F4 {h:Heap}{H:Hp}{b:Addr}{o:Obj}(e:(ma h H).get? b=some o):h.get? b=some o/\H b=none:=by
 have e':h.get? b=some o:=PySem.W.of_hideAll (DJ h H) e;refine{e',?_};cases q:H b with
 |none=>rfl
 | some x =>
   have hm:b∈DJ h H:=List.mem_filter.mpr {Qq.mpr (OQ e'),by simp[q]}
   have z:(ma h H).get? b=none:=PySem.W.hideAll_none (DJ h H) hm;rw[z] at e;cases e
structure Mod (K:OA) (mg:Str->Option Oz) (base:Heap):Prop where
 kin:K.In base
 glob:base.Ns mainGlobals mg
 blt:∃mb,base.Ns builtinsNs mb/\∀x:Str,x≠"__name__"->mb x=bootBuiltins x
 nolimit:base.NoLimit
structure Cx where
 prog:OX
 w:O6
 K:OA
 mg:Str->Option Oz
 base:Heap
 A:Pu
 N:List Str
 s₀:OD
 H₀:Hp
 env:Env
 outer:List Env
 stack:List Env
 ex:List Addr
 fn:Str->Bool
 calm:Bool
 pn:List (Addr×Obj)
 xe:Oz->OD->Prop
def gi (l:List Env):List Addr:=l.filterMap (·.frame)
abbrev Cx.fs (X:Cx):List Addr:=gi X.outer
noncomputable def sM (sc:Scope)(x:Str):Prop:=sc.names.lookup x=some .local\/sc.names.lookup x=some .cell\/sc.names.lookup x=some .free
noncomputable def Loc (sc:Scope)(x:Str):Prop:=sc.names.lookup x=some .local\/sc.names.lookup x=some .cell
noncomputable def Look (env:Env)(h:Heap)(m:Str->Option Oz)(x:Str)(u:Oz):Prop:=
 (env.kindOf x=some .local/\m x=some u)\/((env.kindOf x=some .cell\/env.kindOf x=some .free)/\∃c,env.cells.lookup x=some c/\h.IsCell c (some u))
structure Cx.Ok (X:Cx):Prop where
 mod:Mod X.K X.mg X.base
 kind:X.env.scope.kind=.function
 glob:X.env.globals=mainGlobals
 blt:X.env.builtins=builtinsNs
 above:X.s₀.heap.objs.size<=X.env.locals
 inj:∀x y c,X.env.cells.lookup x=some c->X.env.cells.lookup y=some c->x=y
 has:∀x,(X.env.kindOf x=some .cell\/X.env.kindOf x=some .free)->∃c,X.env.cells.lookup x=some c
 cab:∀x c,X.fn x=true->X.env.cells.lookup x=some c->X.s₀.heap.objs.size<=c
 hd:X.calm=true->X.A.handled=none
 frames:X.A.frames=some X.stack
 stk:X.stack=X.outer\/(X.stack=X.env::X.outer/\X.env.frame=some X.env.locals)
 exf:∀b∈X.ex,b≠X.env.locals/\∀x c,X.env.cells.lookup x=some c->c≠b
 bs:∀b o,X.base.get? b=some o->X.s₀.heap.get? b=some o/\X.H₀ b=none
 bsz:X.base.objs.size<=X.s₀.heap.objs.size
 noex:∀b o,X.base.get? b=some o->b∉X.ex
 exfs:∀b∈X.ex,b∉X.fs
 funs:X.s₀.heap.FunFrames X.base X.outer
 frf:∀b∈X.fs,X.H₀ b=none
structure Inv (X:Cx) (pins:List (Addr×Obj)) (σ:List (Option V)) (H:Hp) (s:OD):Prop where
 ok:X.Ok
 os:s.os=X.s₀.os
 bare:AllBare s.gens
 base:Un X.fs X.ex X.H₀ H X.s₀.heap s.heap
 loc:∃m,s.heap.Ns X.env.locals m/\∀(i:Nat) (x:Str) (v:V),X.N[i]?=some x->σ[i]?=some (some v)->sM X.env.scope x->∃u,RelV v u/\Look X.env s.heap m x u
 cell:∀x c,X.env.cells.lookup x=some c->∃v,s.heap.IsCell c v
 free:H X.env.locals=none
 freeC:∀x c,X.env.cells.lookup x=some c->H c=none
 pin:∀p∈X.pn++pins,s.heap.get? p.1=some p.2/\H p.1=none/\p.1≠X.env.locals/\p.1∉X.fs/\∀v,p.2.data≠.cell v
 hok:fb X.prog X.w H s.heap
 len:σ.length=X.N.length
section
variable{X:Cx}{pins:List (Addr×Obj)}{σ:List (Option V)}{H H':Hp}{s:OD}{h':Heap}
def Cx.Ok.nofr (ok:X.Ok){b:Addr}{o:Obj}(e:X.base.get? b=some o):b∉X.fs:=λhb=>by
 have:=(ok.funs.mem hb).1;rw[e] at this;cases this
def Inv.bs (I:Inv X pins σ H s):∀b o,X.base.get? b=some o->s.heap.get? b=some o/\H b=none:=λb o e=>
 {I.base.keep b o (I.ok.bs b o e).1 (I.ok.bs b o e).2 (I.ok.nofr e) (I.ok.noex b o e),I.base.free b o (I.ok.bs b o e).1 (I.ok.bs b o e).2 (I.ok.noex b o e)}
def Inv.bk (I:Inv X pins σ H s):∀b o,X.base.get? b=some o->s.heap.get? b=some o:=λb o e=>(I.bs b o e).1
def Inv.mod (I:Inv X pins σ H s):Mod X.K X.mg X.base:=I.ok.mod
def Inv.kIn (I:Inv X pins σ H s):X.K.In s.heap:=I.ok.mod.kin.keeps I.bk
def Inv.lt (I:Inv X pins σ H s):X.env.locals<s.heap.objs.size:=let{_,hn,_}:=I.loc;hn.lt
def Inv.sz (I:Inv X pins σ H s):X.s₀.heap.objs.size<=s.heap.objs.size:=OI I.ok.above (Nat.le_of_lt I.lt)
def Inv.nofs (I:Inv X pins σ H s){a:Addr}(h:s.heap.objs.size<=a):a∉X.fs:=λhb=>by
 obtain⟨_,o,ho,_⟩:=I.ok.funs.mem hb;exact absurd (OY (OQ ho) (OI I.sz h)) (PR _)
def Inv.cne (I:Inv X pins σ H s):∀x c,X.env.cells.lookup x=some c->c≠X.env.locals:=λx c e z=>by
 obtain⟨v,o,ho,hd⟩:=I.cell x c e;obtain⟨m,⟨o',es,ep,ho',hd',_⟩,_⟩:=I.loc;rw[z,ho'] at ho;cases ho;rw[hd'] at hd;cases hd
def Inv.funs (I:Inv X pins σ H s):s.heap.FunFrames X.base X.outer:=by
 have all:∀(l:List Env),(∀b∈gi l,b∈X.fs)->X.s₀.heap.FunFrames X.base l->s.heap.FunFrames X.base l:=by
  intro l;induction l with
  |nil=>intro _ _;trivial
  | cons env r ih =>
    intro hs hl;obtain⟨hk,⟨L,o,hf,hn,ho,hd⟩,hr⟩:=hl;have hL:L∈X.fs:=hs L (by unfold gi;rw[QE,hf];exact OT)
    obtain⟨sl,e⟩:=I.base.slot L o ho (I.ok.frf L hL) hL λz=>I.ok.exfs L z hL;exact{hk,{L,_,hf,hn,e,hd},ih (λb hb=>hs b (by unfold gi;rw[QE,hf];exact ON _ hb)) hr}
 exact all X.outer (λ_ hb=>hb) I.ok.funs
def Inv.stack (I:Inv X pins σ H s):s.heap.FunFrames X.base X.stack:=by
 rcases I.ok.stk with e|⟨e,hf⟩
 ·rw[e];exact I.funs
 ·rw[e];obtain⟨m,hn,_⟩:=I.loc;refine .cons (by rw[I.ok.kind];decide) hf hn ?_ I.funs
  exact Qo (OI I.ok.bsz I.ok.above)
def Inv.stkSub (I:Inv X pins σ H s):∀b∈gi X.stack,b∈X.env.locals::X.fs:=λb hb=>by
 rcases I.ok.stk with e|⟨e,hf⟩
 ·rw[e] at hb;exact ON _ hb
 ·rw[e] at hb;unfold gi at hb;rw[QE,hf] at hb;exact hb
def Inv.stkFree (I:Inv X pins σ H s):∀b∈gi X.stack,H b=none:=λb hb=>by
 rcases OL.mp (I.stkSub b hb) with e|hb
 ·rw[e];exact I.free
 ·obtain⟨_,o,ho,_⟩:=I.ok.funs.mem hb;exact I.base.free b o ho (I.ok.frf b hb) λz=>I.ok.exfs b z hb
def Inv.step {g':Array GenState}{t':Nat}{d':Drawn}{ch:List Addr}(I:Inv X pins σ H s)
 (hch:∀b∈ch,(b∈X.ex\/X.s₀.heap.objs.size<=b)/\b≠X.env.locals/\(∀x c,X.env.cells.lookup x=some c->c≠b)/\∀p∈X.pn++pins,p.1≠b)
 (keep:∀b o,b≠X.env.locals->b∉X.fs->b∉ch->s.heap.get? b=some o->H b=none->h'.get? b=some o)
 (slot:∀b o,b≠X.env.locals->b∈X.fs->b∉ch->s.heap.get? b=some o->H b=none->∃sl,h'.get? b=some {o with slots:=sl}) (free:∀b o,b∉ch->s.heap.get? b=some o->H b=none->H' b=none)
 (there:∀b o,b∉ch->s.heap.get? b=some o->∃o',h'.get? b=some o')
 (tups:∀b xs,H b=some (.tup xs)->H' b=some (.tup xs)) (frzs:∀b o u,H b=some (.frz o u)->H' b=some (.frz o u)) (tbls:∀b ps,H b=some (.tbl ps)->∃more,H' b=some (.tbl (ps++more)))
 (ns:∀m,s.heap.Ns X.env.locals m->h'.Ns X.env.locals m) (hok:fb X.prog X.w H' h') (hg:AllBare g') :
 Inv X pins σ H' {s with heap:=h',gens:=g',drawn:=d',toks:=t'}:=by
 have neL:∀b o,X.s₀.heap.get? b=some o->b≠X.env.locals:=λb o e=>PK (OY (OQ e) I.ok.above);have neC:∀b o,X.s₀.heap.get? b=some o->b∉X.ex->b∉ch:=λb o e hx hb=>by
  rcases(hch b hb).1 with z|z
  ·exact hx z
  ·exact absurd (OY (OQ e) z) (PR _)
 have cellK:∀x c,X.env.cells.lookup x=some c->∀v,s.heap.IsCell c v->h'.IsCell c v:=λx c e v ⟨o,ho,hd⟩=>by
  have nch:c∉ch:=λz=>(hch c z).2.2.1 x c e rfl;by_cases hc:c∈X.fs
  ·obtain⟨sl,q⟩:=slot c o (I.cne x c e) hc nch ho (I.freeC x c e);exact{_,q,hd}
  ·exact{o,keep c o (I.cne x c e) hc nch ho (I.freeC x c e),hd}
 refine{I.ok,I.os,hg,{λb o e n hb hx=>?_,λb o e n hb hx=>?_,λb o e n hx=>?_,λb o e hx=>?_,λb xs e=>tups b xs (I.base.tups b xs e),λb o xs e=>frzs b o xs (I.base.frzs b o xs e),λb ps e=>?_},?_,λx c e=>?_,?_,λx c e=>?_,λp hp=>?_,hok,I.len}
 ·exact keep b o (neL b o e) hb (neC b o e hx) (I.base.keep b o e n hb hx) (I.base.free b o e n hx)
 ·obtain⟨sl,e1⟩:=I.base.slot b o e n hb hx;obtain⟨sl',e2⟩:=slot b _ (neL b o e) hb (neC b o e hx) e1 (I.base.free b o e n hx);exact⟨sl',e2⟩
 ·obtain⟨o',e1⟩:=I.base.there b o e hx;exact free b o' (neC b o e hx) e1 (I.base.free b o e n hx)
 ·obtain⟨o',e1⟩:=I.base.there b o e hx;exact there b o' (neC b o e hx) e1
 ·obtain⟨m1,e1⟩:=I.base.tbls b ps e;obtain⟨m2,e2⟩:=tbls b _ e1;exact{m1++m2,by rw[e2,Array.append_assoc]}
 ·obtain⟨m,hn,hl⟩:=I.loc;refine{m,ns m hn,λi x v e1 e2 e3=>?_};obtain⟨u,r,l⟩:=hl i x v e1 e2 e3;refine{u,r,?_};rcases l with l|⟨k,c,e,z⟩
  ·exact .inl l
  ·exact .inr {k,c,e,cellK x c e _ z}
 ·obtain⟨v,z⟩:=I.cell x c e;exact{v,cellK x c e v z}
 ·obtain⟨m,⟨o,_,_,ho,_⟩,_⟩:=I.loc;exact free _ o (λz=>(hch _ z).2.1 rfl) ho I.free
 ·obtain⟨v,o,ho,hd⟩:=I.cell x c e;exact free c o (λz=>(hch c z).2.2.1 x c e rfl) ho (I.freeC x c e)
 ·obtain⟨e,n,ne,nf,d⟩:=I.pin p hp;have nch:p.1∉ch:=λz=>(hch p.1 z).2.2.2 p hp rfl;exact{keep p.1 p.2 ne nf nch e n,free p.1 p.2 nch e n,ne,nf,d}
def Inv.un {t':Nat}(I:Inv X pins σ H s)(u:Un X.fs [] H H' s.heap h')(hok:fb X.prog X.w H' h'):Inv X pins σ H' {s with heap:=h',toks:=t'}:=by
 obtain⟨m,⟨o,es,ep,ho,r⟩,_⟩:=id I.loc;obtain⟨sl,hL⟩:=u.any ho I.free `s
 exact I.step (g':=s.gens) (d':=s.drawn) (ch:=[]) (λ_ z=>nomatch z) (λb o _ hb _ e n=>u.keep b o e n hb `s) (λb o _ hb _ e n=>u.slot b o e n hb `s) (λb o _ e n=>u.free b o e n `s) (λb o _ e=>u.there b o e `s) u.tups u.frzs u.tbls (λm' hm=>by
  obtain⟨o',es',ep',ho',r'⟩:=hm;rw[ho] at ho';cases ho';exact{_,es',ep',hL,r'}) hok I.bare
def Inv.call {g':Array GenState}{t':Nat}{d':Drawn}{ch:List Addr}(I:Inv X pins σ H s)(u:Un (gi X.stack) ch H H' s.heap h')(hok:fb X.prog X.w H' h')(hg:AllBare g')
 (hch:∀b∈ch,(b∈X.ex\/X.s₀.heap.objs.size<=b)/\b≠X.env.locals/\(∀x c,X.env.cells.lookup x=some c->c≠b)/\∀p∈X.pn++pins,p.1≠b) :
 Inv X pins σ H' {s with heap:=h',gens:=g',drawn:=d',toks:=t'}:=by
 obtain⟨m,⟨o,es,ep,ho,r⟩,_⟩:=id I.loc;obtain⟨sl,hL⟩:=u.any ho I.free λz=>(hch _ z).2.1 rfl;exact I.step (ch:=ch) hch (λb o hL hb hc e n=>u.keep b o e n (λz=>(OL.mp (I.stkSub b z)).elim hL hb) hc) (λb o _ _ hc e n=>u.any e n hc) (λb o hc e n=>u.free b o e n hc) (λb o hc e=>u.there b o e hc) u.tups u.frzs u.tbls (λm' hm=>by
  obtain⟨o',es',ep',ho',r'⟩:=hm;rw[ho] at ho';cases ho';exact{_,es',ep',hL,r'}) hok hg
def Inv.turned {t':Nat}{it:Addr}(I:Inv X pins σ H s)(k:∀b o,b≠it->s.heap.get? b=some o->h'.get? b=some o)(hn:H it=none)(hL:it≠X.env.locals)
 (h1:it∈X.ex\/X.s₀.heap.objs.size<=it) (h2:∀x c,X.env.cells.lookup x=some c->c≠it) (h3:∀p∈X.pn++pins,p.1≠it):Inv X pins σ H {s with heap:=h',toks:=t'}:=by
 have nit:∀b u,H b=some u->b≠it:=λb u e z=>by rw[z,hn] at e;cases e
 refine I.step (g':=s.gens) (d':=s.drawn) (ch:=[it]) (λb hb=>?_) (λb o _ _ hc e _=>k b o (λz=>hc (by simp[z])) e) (λb o _ _ hc e _=>{o.slots,k b o (λz=>hc (by simp[z])) e}) (λ_ _ _ _ n=>n)
  (λb o hc e=>{o,k b o (λz=>hc (by simp[z])) e}) (λ_ _ e=>e) (λ_ _ _ e=>e) (λb ps e=>{#[],by rw[e];simp}) (λm hm=>?_) (λb u e=>?_) I.bare
 ·have e:b=it:=by simpa using hb
  subst e;exact⟨h1,hL,h2,h3⟩
 ·obtain⟨o,es,ep,ho,r⟩:=hm;exact{o,es,ep,k _ o (PZ hL) ho,r}
 ·refine(I.hok b u e).stay (λc v hc q=>k c v ?_ q) (λ_ q=>q) λ_ _ q=>q;rcases hc with z|z
  ·rw[z];exact nit b u e
  ·exact nit c _ z
def Inv.tok (I:Inv X pins σ H s)(t:Nat):Inv X pins σ H {s with toks:=t}:=I.un (h':=s.heap) (t':=t) Un.refl I.hok
def Inv.kept {t':Nat}(I:Inv X pins σ H s)(k:∀b u,s.heap.get? b=some u->h'.get? b=some u):Inv X pins σ H {s with heap:=h',toks:=t'}:=I.un (Un.kept k) (I.hok.kept k)
def Inv.laid {a:Addr}{o:HO}{t':Nat}(I:Inv X pins σ H s)(k:∀b u,s.heap.get? b=some u->h'.get? b=some u)(hp:s.heap.objs.size<=a)(new:dg X.prog X.w (upd H a o) h' a o) :
 Inv X pins σ (upd H a o) {s with heap:=h',toks:=t'}:=I.un (Un.laid k hp (I.hok.fresh hp)) (I.hok.laid k hp new)
def Inv.write {x e:Addr}{o:HO}{t':Nat}(I:Inv X pins σ H s)(mu:EL (H x))(he:e=x\/H e=some (.own x))(k:∀b u,b≠e->s.heap.get? b=some u->h'.get? b=some u)(heo:∃u,h'.get? e=some u)
 (new:dg X.prog X.w (upd H x o) h' x o):Inv X pins σ (upd H x o) {s with heap:=h',toks:=t'}:=I.un (Un.write mu he k heo) (I.hok.write mu he k heo new)
def Inv.pins_of {pins':List (Addr×Obj)}(I:Inv X pins σ H s)(h:∀p∈pins',s.heap.get? p.1=some p.2/\H p.1=none/\p.1≠X.env.locals/\p.1∉X.fs/\∀v,p.2.data≠.cell v):Inv X pins' σ H s:=
 {I.ok,I.os,I.bare,I.base,I.loc,I.cell,I.free,I.freeC,λp hp=>(Pe.mp hp).elim (λz=>I.pin p (Qe _ z)) (h p),I.hok,I.len}
def oH {N:List Str}(hN:N.Nodup){i j:Nat}{x:Str}(a:N[i]?=some x)(b:N[j]?=some x):i=j:=by
 obtain⟨h1,e1⟩:=Oy.mp a;obtain⟨h2,e2⟩:=Oy.mp b;exact(List.getElem_inj hN).mp (e1.trans e2.symm)
def rM {M:Model}{A:Pu}{E:Oz->OD->Prop}{i:Nat}{x:Str}{v:V}{u:Oz}{Q:Unit->OD->Prop}(I:Inv X pins σ H s)(hN:X.N.Nodup)(hi:X.N[i]?=some x)(hx:Loc X.env.scope x)(r:RelV v u)
 (h:∀s',Inv X pins (σ.set i (some v)) H s'->(∃a,Heap.SameBut a s.heap s'.heap/\(a=X.env.locals\/X.env.cells.lookup x=some a))->Q () s') (hf:X.fn x=true\/X.env.scope.names.lookup x=some .local:=by first|exact .inl rfl|exact .inr rfl|assumption):wpAny M A (storeName X.env x u) Q E s:=by
 obtain⟨m,hn,hl⟩:=id I.loc;have hcls:(X.env.scope.kind==.class||(X.env.scope.kind==.module&&X.env.locals != X.env.globals))=false:=by rw[I.ok.kind];rfl
 have hiσ:i<σ.length:=by rw[I.len];exact(Oy.mp hi).1
 have cne:=I.cne;have tracked:∀{a:Addr}{h':Heap},(∃o,s.heap.get? a=some o/\H a=none)->Heap.SameBut a s.heap h'->fb X.prog X.w H h':=λ{a h'} ha hs b ob e=>by
  obtain⟨_,_,hfree⟩:=ha;refine(I.hok b ob e).stay (λc w' hc q=>(hs.2 c ?_).trans q) (λ_ q=>q) λ_ _ q=>q;rintro rfl;rcases hc with rfl|hc
  ·rw[hfree] at e;cases e
  ·rw[hfree] at hc;cases hc
 rcases hx with hk|hk
 ·refine wpAny_storeName_local hk hn (λh' hn' hs=>?_) hcls;obtain⟨oL,_,_,hoL,_⟩:=id hn;refine h _ {I.ok,I.os,I.bare,{λb o e n hb hx=>?_,λb o e n hb hx=>?_,I.base.free,λb o e hx=>?_,I.base.tups,I.base.frzs,I.base.tbls},{_,hn',λj y v' e1 e2 e3=>?_},λy c e=>?_,I.free,I.freeC,λp hp=>?_,tracked ⟨oL,hoL,I.free⟩ hs,by simpa using I.len} {_,hs,.inl rfl}
  ·exact(hs.2 b (PK (OY (OQ e) I.ok.above))).trans (I.base.keep b o e n hb hx)
  ·obtain⟨sl,e1⟩:=I.base.slot b o e n hb hx;exact{sl,(hs.2 b (PK (OY (OQ e) I.ok.above))).trans e1}
  ·obtain⟨o',e1⟩:=I.base.there b o e hx;exact{o',(hs.2 b (PK (OY (OQ e) I.ok.above))).trans e1}
  ·by_cases hj:j=i
   ·subst hj;rw[hi] at e1;cases e1;rw[Pf hiσ] at e2;cases e2;exact{u,r,.inl {hk,`s}}
   ·rw[O3 (PZ hj)] at e2;obtain⟨u',r',q⟩:=hl j y v' e1 e2 e3;refine{u',r',?_};rcases q with⟨k,e⟩|⟨k,c,e,z⟩
    ·refine .inl {k,?_};have:y≠x:=λe=>hj (oH hN e1 (e ▸ hi));simp[this,e]
    ·exact .inr {k,c,e,z.sameBut hs (cne y c e)}
  ·obtain⟨w',z⟩:=I.cell y c e;exact{w',z.sameBut hs (cne y c e)}
  ·obtain⟨e,n,ne,nf,d⟩:=I.pin p hp;exact{(hs.2 p.1 ne).trans e,n,ne,nf,d}
 ·have hfn:X.fn x=true:=by
   rcases hf with z|z
   ·exact z
   ·rw[z] at hk;cases hk
  obtain⟨c,hc⟩:=I.ok.has x (.inl hk);obtain⟨w',z⟩:=I.cell x c hc;refine wpAny_storeName_cell I.ok.kind hk hc z (λh' hc' hs=>?_);obtain⟨oc,hoc,hocd⟩:=id z;refine h {s with heap:=h'} {I.ok,I.os,I.bare,{λb o e n hb hx=>?_,λb o e n hb hx=>?_,I.base.free,λb o e hx=>?_,I.base.tups,I.base.frzs,I.base.tbls},{m,hn.sameBut hs (PZ (cne x c hc)),λj y v' e1 e2 e3=>?_},λy c' e=>?_,I.free,I.freeC,λp hp=>?_,tracked {oc,hoc,I.freeC x c hc} hs,by simpa using I.len} {c,hs,.inr hc}
  ·exact(hs.2 b (PK (OY (OQ e) (I.ok.cab x c hfn hc)))).trans (I.base.keep b o e n hb hx)
  ·obtain⟨sl,e1⟩:=I.base.slot b o e n hb hx;exact{sl,(hs.2 b (PK (OY (OQ e) (I.ok.cab x c hfn hc)))).trans e1}
  ·obtain⟨o',e1⟩:=I.base.there b o e hx;exact{o',(hs.2 b (PK (OY (OQ e) (I.ok.cab x c hfn hc)))).trans e1}
  ·by_cases hj:j=i
   ·subst hj;rw[hi] at e1;cases e1;rw[Pf hiσ] at e2;cases e2;exact{u,r,.inr {.inl hk,c,hc,hc'}}
   ·rw[O3 (PZ hj)] at e2;obtain⟨u',r',q⟩:=hl j y v' e1 e2 e3;refine{u',r',?_};rcases q with q|⟨k,c',e,z'⟩
    ·exact .inl q
    ·refine .inr {k,c',e,z'.sameBut hs ?_};rintro rfl;exact hj (oH hN e1 (I.ok.inj _ _ _ e hc ▸ hi))
  ·by_cases hcc:c'=c
   ·subst hcc;exact{_,hc'}
   ·obtain⟨w2,z2⟩:=I.cell y c' e;exact{w2,z2.sameBut hs hcc}
  ·obtain⟨e,n,ne,nf,d⟩:=I.pin p hp;refine{(hs.2 p.1 ?_).trans e,n,ne,nf,d};intro q;rw[q,hoc] at e;have q':oc=p.2:=OG e;exact d w' (by rw[<- q'];exact hocd)
def tY {M:Model}{A:Pu}{E:Oz->OD->Prop}{i:Nat}{x:Str}{v:V}{u:Oz}{Q:Unit->OD->Prop}(I:Inv X pins σ H s)(hN:X.N.Nodup)(hi:X.N[i]?=some x)(hx:Loc X.env.scope x)(r:RelV v u)
 (h:∀s',Inv X pins (σ.set i (some v)) H s'->Q () s') (hf:X.fn x=true\/X.env.scope.names.lookup x=some .local:=by first|exact .inl rfl|exact .inr rfl|assumption):wpAny M A (storeName X.env x u) Q E s:=
 rM I hN hi hx r (λs' I' _=>h s' I') hf
def Inv.call' {s':OD}{ch:List Addr}(I:Inv X pins σ H s)(ho:s'.os=s.os)(u:Un (gi X.stack) ch H H' s.heap s'.heap)(hok:fb X.prog X.w H' s'.heap)(hg:AllBare s'.gens)
 (hch:∀b∈ch,(b∈X.ex\/X.s₀.heap.objs.size<=b)/\b≠X.env.locals/\(∀x c,X.env.cells.lookup x=some c->c≠b)/\∀p∈X.pn++pins,p.1≠b):Inv X pins σ H' s':=by
 obtain⟨h',g',d',t',o'⟩:=s';have e:o'=s.os:=ho;subst e;exact I.call (g':=g') (t':=t') (d':=d') u hok hg hch
end
abbrev XK:=Oz->Option Addr->Hp->Prop
abbrev St:=List (Option V)
abbrev VK:=V->Hp->Prop
abbrev TE:=St->Hp->VK->Prop
abbrev TT:=St->Hp->(Bool->Hp->Prop)->Prop
abbrev TA:=St->Hp->(List V->Hp->Prop)->Prop
structure Ends where
 nx:St->Hp->Prop
 rt:VK
 bk:St->Hp->Prop:=λ_ _=>False
 ct:St->Hp->Prop:=λ_ _=>False
abbrev TS:=Ends->St->Hp->Prop
noncomputable def EP (X:Cx)(pins:List (Addr×Obj))(σ:St)(Q:VK)(u:Oz)(s':OD):Prop:=∃v H',Inv X pins σ H' s'/\RelV v u/\Q v H'
noncomputable def TP (X:Cx)(pins:List (Addr×Obj))(σ:St)(Q:Bool->Hp->Prop)(b:Bool)(s':OD):Prop:=∃H',Inv X pins σ H' s'/\Q b H'
noncomputable def AP (X:Cx)(pins:List (Addr×Obj))(σ:St)(Q:List V->Hp->Prop)(us:List Oz)(s':OD):Prop:=∃vs H',Inv X pins σ H' s'/\Vals vs us/\Q vs H'
noncomputable def SP (X:Cx)(pins:List (Addr×Obj))(D:Ends)(f:Flow)(s':OD):Prop:=
 match f with
 |.next=>∃σ' H',Inv X pins σ' H' s'/\D.nx σ' H'
 |.brk=>∃σ' H',Inv X pins σ' H' s'/\D.bk σ' H'
 |.cont=>∃σ' H',Inv X pins σ' H' s'/\D.ct σ' H'
 |.ret u=>∃v σ' H',Inv X pins σ' H' s'/\RelV v u/\D.rt v H'
noncomputable def PE (X:Cx)(e:Expr)(t:TE):Prop:=
 ∀(pins:List (Addr×Obj)) (s:OD) (σ:St) (H:Hp) (Q:VK),Inv X pins σ H s->t σ H Q->wpAny (model X.prog X.w) X.A (eval e X.env) (EP X pins σ Q) X.xe s
noncomputable def PT (X:Cx)(e:Expr)(t:TT):Prop:=
 ∀(pins:List (Addr×Obj)) (s:OD) (σ:St) (H:Hp) (Q:Bool->Hp->Prop),Inv X pins σ H s->t σ H Q->wpAny (model X.prog X.w) X.A (isTrue e X.env (eval e X.env)) (TP X pins σ Q) X.xe s
noncomputable def PW (X:Cx)(e:Expr)(t:TT):Prop:=
 ∀(whole:Sem Oz) (pins:List (Addr×Obj)) (s:OD) (σ:St) (H:Hp) (Q:Bool->Hp->Prop),Inv X pins σ H s->t σ H Q->wpAny (model X.prog X.w) X.A (isTrue e X.env whole) (TP X pins σ Q) X.xe s
def PW.pt {X:Cx}{e:Expr}{t:TT}(h:PW X e t):PT X e t:=h _
noncomputable def PA (X:Cx)(es:List Expr)(t:TA):Prop:=
 ∀(pos:Pos) (pins:List (Addr×Obj)) (s:OD) (σ:St) (H:Hp) (Q:List V->Hp->Prop),Inv X pins σ H s->t σ H Q->wpAny (model X.prog X.w) X.A (spliced (backTo pos (starEach es X.env))) (AP X pins σ Q) X.xe s
noncomputable def PS (X:Cx)(st:Stmt)(t:TS):Prop:=
 ∀(pins:List (Addr×Obj)) (s:OD) (σ:St) (H:Hp) (D:Ends),Inv X pins σ H s->t D σ H->wpAny (model X.prog X.w) X.A (exec st X.env) (SP X pins D) X.xe s
noncomputable def nh (X:Cx)(st:List Stmt)(t:TS):Prop:=
 ∀(pins:List (Addr×Obj)) (s:OD) (σ:St) (H:Hp) (D:Ends),Inv X pins σ H s->t D σ H->wpAny (model X.prog X.w) X.A (execs st X.env) (SP X pins D) X.xe s
def a9 {α:Type}{t:Sem α}{Q Q':α->OD->Prop}{M:Model}{A:Pu}{E:Oz->OD->Prop}{s:OD}(h:wpAny M A t Q E s)(hQ:∀a s,Q a s->Q' a s):wpAny M A t Q' E s:=wpAny_mono h hQ λ_ _ x=>x
section
variable{X:Cx}
def bin {a b:Expr}{ta tb:TE}(ha:PE X a ta)(hb:PE X b tb){pins:List (Addr×Obj)}{s:OD}{σ:St}{H:Hp}{R:V->V->Hp->Prop}(I:Inv X pins σ H s)(h:ta σ H λx H1=>tb σ H1 λy H2=>R x y H2)
 {α:Type}{Q:α->OD->Prop}{f:Oz->Oz->Sem α}
 (hf:∀v u s2 x y H2,Inv X pins σ H2 s2->RelV x v->RelV y u->R x y H2->wpAny (model X.prog X.w) X.A (f v u) Q X.xe s2) :
 wpAny (model X.prog X.w) X.A (eval a X.env) (λv s₁=>wpAny (model X.prog X.w) X.A (eval b X.env) (λu s₂=>wpAny (model X.prog X.w) X.A (f v u) Q X.xe s₂) X.xe s₁) X.xe s:=by
 refine a9 (ha pins s σ H _ I h) λv s1 ⟨x,H1,I1,r1,q1⟩=>?_;refine a9 (hb pins s1 σ H1 _ I1 q1) λu s2 ⟨y,H2,I2,r2,q2⟩=>?_;exact hf v u s2 x y H2 I2 r1 r2 q2
def BE (i:Nat):TE:=λσ H Q=>∃v,σ[i]?=some (some v)/\Q v H
def tC (v:V):TE:=λ_ H Q=>Q v H
def pK {i:Nat}{x:Str}{pos:Pos}(hN:X.N[i]?=some x)(hv:sM X.env.scope x)(hd:(x==("__debug__":Str))=false:=by decide)(hcd:(x==("__classdict__":Str))=false:=by decide):PE X (.Name x pos) (BE i):=by
 intro pins s σ H Q I h;obtain⟨v,e,h⟩:=h;obtain⟨m,hn,hl⟩:=I.loc;obtain⟨u,r,l⟩:=hl i x v hN e hv;have fin:EP X pins σ Q u s:=⟨v,H,I,r,h⟩;rcases l with⟨hk,hm⟩|⟨hk,c,hc,hcell⟩
 ·exact wpAny_Name (wpAny_loadName_local I.ok.kind hk hn hm fin) hd
 ·rcases hk with hk|hk
  ·exact wpAny_Name (wpAny_loadName_cell I.ok.kind hk hc hcell fin) hd
  ·exact wpAny_Name (wpAny_loadName_free I.ok.kind hk hc hcell fin hcd) hd
def zR {i j pos}:PE X (.Constant (.int i) j pos) (tC (.int i)):=λ_ _ _ H _ I h=>wpAny_Constant_int {.int i,H,I.tok _,{_,rfl},h}
def xC {b j pos}:PE X (.Constant (.bool b) j pos) (tC (.bl b)):=λ_ _ _ H _ I h=>Constant_bool {.bl b,H,I,rfl,h}
def IK {j pos}:PE X (.Constant .none j pos) (tC .non):=λ_ _ _ H _ I h=>Constant_none {.non,H,I,rfl,h}
def IF {x j pos}:PE X (.Constant (.str x) j pos) (tC (.str x)):=λ_ _ _ H _ I h=>Calls.Constant_str {.str x,H,I.tok _,{_,rfl},h}
noncomputable def Gl (X:Cx)(x:Str):Prop:=X.env.kindOf x=some .globalImplicit
def gv {E:Oz->OD->Prop}{pins:List (Addr×Obj)}{s:OD}{σ:St}{H:Hp}{x:Str}{u:Oz}{pos:Pos}{Q:Oz->OD->Prop}(I:Inv X pins σ H s)(hg:Gl X x)(hm:X.mg x=some u)(h:Q u s)
 (hd:(x==("__debug__":Str))=false:=by decide):wpAny (model X.prog X.w) X.A (eval (.Name x pos) X.env) Q E s:=
 Calls.Name_function_global I.ok.kind hg (Calls.loadGlobal_global (by rw[I.ok.glob];exact I.mod.glob.keeps I.bk) hm h) hd
def iw {E:Oz->OD->Prop}{pins:List (Addr×Obj)}{s:OD}{σ:St}{H:Hp}{x:Str}{u:Oz}{pos:Pos}{Q:Oz->OD->Prop}(I:Inv X pins σ H s)(hg:Gl X x)(hm:X.mg x=none)(hv:bootBuiltins x=some u)(h:Q u s)
 (hn:x≠"__name__":=by decide) (hd:(x==("__debug__":Str))=false:=by decide):wpAny (model X.prog X.w) X.A (eval (.Name x pos) X.env) Q E s:=by
 obtain⟨mb,h1,h2⟩:=I.mod.blt;exact Calls.Name_function_global I.ok.kind hg (Calls.loadGlobal_builtin (by rw[I.ok.glob];exact I.mod.glob.keeps I.bk) hm (by rw[I.ok.blt];exact h1.keeps I.bk) ((h2 x hn).trans hv) h) hd
def iS {x:Str}{v:V}{u:Oz}{pos:Pos}(hg:Gl X x)(hm:X.mg x=some u)(r:RelV v u)(hd:(x==("__debug__":Str))=false:=by decide):PE X (.Name x pos) (tC v):=
 λ_ _ _ H _ I h=>gv I hg hm ⟨v,H,I,r,h⟩ hd
def wu {x:Str}{v:V}{u:Oz}{pos:Pos}(hg:Gl X x)(hm:X.mg x=none)(hv:bootBuiltins x=some u)(r:RelV v u)(hn:x≠"__name__":=by decide)(hd:(x==("__debug__":Str))=false:=by decide):PE X (.Name x pos) (tC v):=
 λ_ _ _ H _ I h=>iw I hg hm hv ⟨v,H,I,r,h⟩ hn hd
variable{a b:Expr}{ta tb:TE}{pos:Pos}
variable{tA tB':TT}{rest:List Expr}
noncomputable def gW (t u:TT):TT:=λσ H Q=>t σ H λc H1=>if c=true then u σ H1 Q else Q false H1
noncomputable def eA (t u:TT):TT:=λσ H Q=>t σ H λc H1=>if c=true then Q true H1 else u σ H1 Q
def bC (t:TT):TT:=λσ H Q=>t σ H λc H1=>Q (!c) H1
def FN (ha:PT X a tA):PW X (.BoolOp .And [a] pos) tA:=by
 intro wh pins s σ H Q I h;refine isTrue_and (a9 (ha pins s σ H Q I h) λc s1 e=>?_);cases c with
 |true=>exact isTrue_and_nil e
 |false=>exact e
def Iq (ha:PT X a tA):PW X (.BoolOp .Or [a] pos) tA:=by
 intro wh pins s σ H Q I h;refine isTrue_or (a9 (ha pins s σ H Q I h) λc s1 e=>?_);cases c with
 |false=>exact isTrue_or_nil e
 |true=>exact e
def Ir (ha:PT X a tA)(hb:PW X (.BoolOp .And (b::rest) pos) tB'):PW X (.BoolOp .And (a::b::rest) pos) (gW tA tB'):=by
 intro wh pins s σ H Q I h;refine isTrue_and (a9 (ha pins s σ H _ I h) λc s1 ⟨H1,I1,q1⟩=>?_);cases c with
 |true=>exact hb wh pins s1 σ H1 Q I1 q1
 |false=>exact⟨H1,I1,q1⟩
def Lb (ha:PT X a tA)(hb:PW X (.BoolOp .Or (b::rest) pos) tB'):PW X (.BoolOp .Or (a::b::rest) pos) (eA tA tB'):=by
 intro wh pins s σ H Q I h;refine isTrue_or (a9 (ha pins s σ H _ I h) λc s1 ⟨H1,I1,q1⟩=>?_);cases c with
 |true=>exact⟨H1,I1,q1⟩
 |false=>exact hb wh pins s1 σ H1 Q I1 q1
def Iv (ha:PT X a tA):PT X (.UnaryOp .Not a pos) (bC tA):=by
 intro pins s σ H Q I h;exact isTrue_not (ha pins s σ H (λc H1=>Q (!c) H1) I h)
noncomputable def KQ (ta tb:TE):TE:=λσ H Q=>ta σ H λx H1=>∃c,x=.bl c/\if c=true then tb σ H1 Q else Q (.bl false) H1
noncomputable def Na (ta tb:TE):TE:=λσ H Q=>ta σ H λx H1=>∃c,x=.bl c/\if c=true then Q (.bl true) H1 else tb σ H1 Q
noncomputable def KN (ta:TE):TE:=λσ H Q=>ta σ H λx H1=>∃c,x=.bl c/\Q (.bl (!c)) H1
def II {op}{t:TE}(h:PE X a t):PE X (.BoolOp op [a] pos) t:=λpins s σ H Q I hw=>BoolOp_one (h pins s σ H Q I hw)
def IP (ha:PE X a ta)(hb:PE X (.BoolOp .And (b::rest) pos) tb):PE X (.BoolOp .And (a::b::rest) pos) (KQ ta tb):=by
 intro pins s σ H Q I h;refine BoolOp_and (a9 (ha pins s σ H _ I h) λv s1 ⟨x,H1,I1,r1,q1⟩=>?_);obtain⟨c,rfl,q1⟩:=q1;cases r1;refine tqp ?_;cases c with
 |true=>exact hb pins s1 σ H1 Q I1 q1
 |false=>exact{.bl false,H1,I1,rfl,q1}
def Ld (ha:PE X a ta)(hb:PE X (.BoolOp .Or (b::rest) pos) tb):PE X (.BoolOp .Or (a::b::rest) pos) (Na ta tb):=by
 intro pins s σ H Q I h;refine BoolOp_or (a9 (ha pins s σ H _ I h) λv s1 ⟨x,H1,I1,r1,q1⟩=>?_);obtain⟨c,rfl,q1⟩:=q1;cases r1;refine tqp ?_;cases c with
 |false=>exact hb pins s1 σ H1 Q I1 q1
 |true=>exact{.bl true,H1,I1,rfl,q1}
def IJ (ha:PE X a ta):PE X (.UnaryOp .Not a pos) (KN ta):=by
 intro pins s σ H Q I h;refine UnaryOp_ (a9 (ha pins s σ H _ I h) λv s1 ⟨x,H1,I1,r1,q1⟩=>?_);obtain⟨c,rfl,q1⟩:=q1;cases r1;exact not_of (tqp {.bl (!c),H1,I1,rfl,q1})
noncomputable def tIf (t:TT)(ta tb:TE):TE:=λσ H Q=>t σ H λc H1=>if c=true then ta σ H1 Q else tb σ H1 Q
def uv {c:Expr}(hc:PT X c tA)(ha:PE X a ta)(hb:PE X b tb):PE X (.IfExp c a b pos) (tIf tA ta tb):=by
 intro pins s σ H Q I h;refine wpAny_IfExp (a9 (hc pins s σ H _ I h) λd s1 ⟨H1,I1,q1⟩=>?_);cases d with
 |true=>exact ha pins s1 σ H1 Q I1 q1
 |false=>exact hb pins s1 σ H1 Q I1 q1
end
noncomputable def c9 (K:OA)(H:Hp)(a:Addr)(xs:List V):Prop:=
 Rd H a (.lst xs)\/
  ∃(o:Obj) (its:Array Oz) (n:Nat),K.lookup a=some o/\o.cls=.type "list"/\o.dict=none/\o.data=.seq its n/\its.size<=sizeLine/\Vals xs its.toList
noncomputable def dQ (K:OA)(H:Hp)(a:Addr)(xs:List V):Prop:=
 Rd H a (.tup xs)\/
  ∃(o:Obj) (its:Array Oz) (n:Nat),K.lookup a=some o/\o.cls=.type "tuple"/\o.data=.seq its n/\its.size<=sizeLine/\Vals xs its.toList
noncomputable def Oa:Oz->Option V
 |.none=>some .non
 |.bool b=>some (.bl b)
 |.int i _=>some (.int i)
 |.str x _=>some (.str x)
 |.bytes b _=>some (.byt b)
 |.float b _=>some (.flt b)
 |.ref a=>some (.ref a)
 |.type n=>some (.ty n)
 |_=>none
def RelV.abs {x:V}{u:Oz}(r:RelV x u):Oa u=some x:=by
 cases x with
 |non=>cases r;rfl
 |bl _=>cases r;rfl
 |int _=>obtain⟨t,rfl⟩:=r;rfl
 |str _=>obtain⟨t,rfl⟩:=r;rfl
 |byt _=>obtain⟨t,rfl⟩:=r;rfl
 |flt _=>obtain⟨t,rfl⟩:=r;rfl
 |ref _=>cases r;rfl
 |ty _=>cases r;rfl
def RelV.inj {x y:V}{u:Oz}(r:RelV x u)(q:RelV y u):x=y:=OG (r.abs.symm.trans q.abs)
def Vals.inj:∀{xs ys:List V}{us:List Oz},Vals xs us->Vals ys us->xs=ys
 |_,_,_,.nil,.nil=>rfl
 |_,_,_,.cons r t,.cons r' t'=>by rw[r.inj r',Vals.inj t t']
section
variable{X:Cx}{pins:List (Addr×Obj)}{σ:St}{H:Hp}{s:OD}{a:Addr}{xs ys:List V}
def c9.of {K:OA}(h:H a=some (.lst xs)):c9 K H a xs:=.inl (.inl h)
def dQ.of {K:OA}(h:H a=some (.tup xs)):dQ K H a xs:=.inl (.inl h)
def Inv.list (I:Inv X pins σ H s)(h:c9 X.K H a xs):∃its:List Oz,Vals xs its/\PlainL s.heap a its.toArray/\xs.length<=sizeLine:=by
 rcases h with h|⟨o,its,n,hk,hc,hd,hs,hz,r⟩
 ·obtain⟨z,its,n,r,e⟩:=h.ok I.hok;exact{its,r,{_,n,e,rfl,rfl,rfl},z}
 ·refine{its.toList,r,{o,n,I.kIn a o hk,hc,hd,by simpa using hs},?_}
  have e:=r.length;simp only[Qn] at e;omega
def Inv.tuple (I:Inv X pins σ H s)(h:dQ X.K H a xs):∃its:List Oz,Vals xs its/\IsTup s.heap a its.toArray/\xs.length<=sizeLine:=by
 rcases h with h|⟨o,its,n,hk,hc,hs,hz,r⟩
 ·obtain⟨z,its,r,p⟩:=h.ok I.hok;exact⟨its,r,p,z⟩
 ·refine{its.toList,r,{o,I.kIn a o hk,hc,n,by simpa using hs},?_}
  have e:=r.length;simp only[Qn] at e;omega
def Inv.list_inj (I:Inv X pins σ H s)(h:c9 X.K H a xs)(h':c9 X.K H a ys):xs=ys:=by
 obtain⟨its,r,⟨o,n,e,_,_,d⟩,_⟩:=I.list h;obtain⟨its',r',⟨o',n',e',_,_,d'⟩,_⟩:=I.list h';rw[e] at e';cases e';rw[d] at d';injection d' with d1 _
 have:its=its':=by simpa using congrArg Array.toList d1
 subst this;exact r.inj r'
def Inv.tuple_inj (I:Inv X pins σ H s)(h:dQ X.K H a xs)(h':dQ X.K H a ys):xs=ys:=by
 obtain⟨its,r,⟨o,e,_,n,d⟩,_⟩:=I.tuple h;obtain⟨its',r',⟨o',e',_,n',d'⟩,_⟩:=I.tuple h';rw[e] at e';cases e';rw[d] at d';injection d' with d1 _
 have:its=its':=by simpa using congrArg Array.toList d1
 subst this;exact r.inj r'
end
section
variable{X:Cx}{st:Stmt}{rest:List Stmt}{t u:TS}{e:Expr}{te:TE}{pos:Pos}
def DL:TS:=λD σ H=>D.nx σ H
def MY (t u:TS):TS:=λD σ H=>t {D with nx:=u D} σ H
def wj:nh X [] DL:=λ_ _ σ H _ I h=>wpAny_execs_nil ⟨σ,H,I,h⟩
def oE (h1:PS X st t)(h2:nh X rest u):nh X (st::rest) (MY t u):=by
 intro pins s σ H D I h;refine wpAny_execs_cons (a9 (h1 pins s σ H {D with nx:=u D} I h) λf s1 q=>?_)
 cases f with
 | next =>
   obtain⟨σ',H',I',q⟩:=q;exact h2 pins s1 σ' H' D I' q
 |ret v=>exact q
 |brk=>exact q
 |cont=>exact q
def FR:PS X (.Pass pos) DL:=λ_ _ σ H _ I h=>wpAny_Pass ⟨σ,H,I,h⟩
def Inv.quiet {pins:List (Addr×Obj)}{σ:St}{H:Hp}{s:OD}(I:Inv X pins σ H s):interactive X.env=false:=by simp[interactive,I.ok.kind]
def KO (te:TE):TS:=λD σ H=>te σ H λ_ H1=>D.nx σ H1
def nz (he:PE X e te)(hs:swapsWith e none pos.line X.env=pure false:=by rfl):PS X (.Expr e pos) (KO te):=by
 intro pins s σ H D I h;exact wpAny_Expr_any (a9 (he pins s σ H _ I h) λv s1 ⟨x,H1,I1,r1,q1⟩=>⟨σ,H1,I1,q1⟩) I.quiet hs
def MZ (te:TE):TS:=λD σ H=>te σ H D.rt
def zM (he:PE X e te):PS X (.Return (some e) pos) (MZ te):=by
 intro pins s σ H D I h;exact wpAny_Return_some (a9 (he pins s σ H _ I h) λv s1 ⟨x,H1,I1,r1,q1⟩=>⟨x,σ,H1,I1,r1,q1⟩)
def KI:TS:=λD _ H=>D.rt .non H
def FQ:PS X (.Return none pos) KI:=λ_ _ σ H _ I h=>wpAny_Return_none {.non,σ,H,I,rfl,h}
noncomputable def Nf (c:TT)(t u:TS):TS:=λD σ H=>c σ H λb H1=>if b=true then t D σ H1 else u D σ H1
def Lc {c:Expr}{a b:List Stmt}{tc:TT}(hc:PT X c tc)(ha:nh X a t)(hb:nh X b u):PS X (.If c a b pos) (Nf tc t u):=by
 intro pins s σ H D I h;refine wpAny_If (a9 (hc pins s σ H _ I h) λd s1 ⟨H1,I1,q1⟩=>?_);cases d with
 |true=>exact ha pins s1 σ H1 D I1 q1
 |false=>exact hb pins s1 σ H1 D I1 q1
end
abbrev TG:=V->St->Hp->(St->Hp->Prop)->Prop
abbrev qm:=List V->St->Hp->(St->Hp->Prop)->Prop
noncomputable def PG (X:Cx)(target:Expr)(t:TG):Prop:=
 ∀(pins:List (Addr×Obj)) (s:OD) (σ:St) (H:Hp) (v:V) (u:Oz) (Q:St->Hp->Prop),Inv X pins σ H s->RelV v u->t v σ H Q->
  wpAny (model X.prog X.w) X.A (assign target X.env u) (λ_ s'=>∃σ' H',Inv X pins σ' H' s'/\Q σ' H') X.xe s
noncomputable def vF (X:Cx)(ts:List Expr)(t:qm):Prop:=
 ∀(pins:List (Addr×Obj)) (s:OD) (σ:St) (H:Hp) (vs:List V) (us:List Oz) (Q:St->Hp->Prop),Inv X pins σ H s->Vals vs us->t vs σ H Q->
  wpAny (model X.prog X.w) X.A (assignInOrder ((assignEach ts X.env).map (·.2)) us) (λ_ s'=>∃σ' H',Inv X pins σ' H' s'/\Q σ' H') X.xe s
abbrev Dh:=V->V->V->Hp->(Hp->Prop)->Prop
noncomputable def Kr (X:Cx)(t:Dh):Prop:=
 ∀(pins:List (Addr×Obj)) (s:OD) (σ:St) (H:Hp) (o i v:V) (ov iv u:Oz) (Q:Hp->Prop),Inv X pins σ H s->RelV o ov->RelV i iv->RelV v u->t o i v H Q->
  wpAny (model X.prog X.w) X.A (setItem ov iv u) (λ_ s'=>∃H',Inv X pins σ H' s'/\Q H') X.xe s
section
variable{X:Cx}{pos:Pos}
def Lx (i:Nat):TG:=λv σ H Q=>Q (σ.set i (some v)) H
def wq {i:Nat}{x:Str}(hN:X.N.Nodup)(hi:X.N[i]?=some x)(hx:Loc X.env.scope x)(hf:X.fn x=true\/X.env.scope.names.lookup x=some .local:=by first|exact .inl rfl|exact .inr rfl|assumption):PG X (.Name x pos) (Lx i):=by
 intro pins s σ H v u Q I r h;exact wpAny_assign_Name (tY I hN hi hx r (λs' I'=>{_,H,I',h}) hf)
def ah:qm:=λvs σ H Q=>vs=[]/\Q σ H
noncomputable def aa (t:TG)(u:qm):qm:=λvs σ H Q=>∃v r,vs=v::r/\t v σ H λσ' H'=>u r σ' H' Q
def FX:vF X [] ah:=by
 intro pins s σ H vs us Q I r h;obtain⟨e,h⟩:=h;subst e;cases r;exact assignInOrder_nil ⟨σ,H,I,h⟩
def Ca {e:Expr}{es:List Expr}{t:TG}{u:qm}(h1:PG X e t)(h2:vF X es u)
 (hs:(assignEach (e::es) X.env).map (·.2)=assign e X.env::(assignEach es X.env).map (·.2):=by rfl):vF X (e::es) (aa t u):=by
 intro pins s σ H vs us Q I r h;obtain⟨v,vr,e1,h⟩:=h;subst e1;cases r with
 | cons r rr =>
   rw[hs];refine assignInOrder_cons (a9 (h1 pins s σ H _ _ _ I r h) λ_ s1 ⟨σ1,H1,I1,q1⟩=>?_);exact h2 pins s1 σ1 H1 _ _ Q I1 rr q1
noncomputable def bH (K:OA)(n:Nat)(t:qm):TG:=λv σ H Q=>∃a xs,v=.ref a/\dQ K H a xs/\xs.length=n/\t xs σ H Q
def IC {es:List Expr}{k:Nat}{t:qm}{n:Nat}(hc:X.calm=true)(h:vF X es t)
 (hn:(assignEach es X.env).length=n:=by rfl) (hst:(assignEach es X.env).findIdx? (·.1)=none:=by rfl):PG X (.Tuple es k pos) (bH X.K n t):=by
 intro pins s σ H v u Q I r hw;obtain⟨a,xs,e1,hq,hl,hw⟩:=hw;subst e1;cases r;obtain⟨its,rv,ht,hz⟩:=I.tuple hq;refine assign_Tuple_tuple (I.ok.hd hc) ht (by simp[hn,<- hl,rv.length]) hst λh' hx=>?_
 have I1:Inv X pins σ H {s with heap:=h'}:=I.kept (t':=s.toks) λb o e=>hx b o (PK (OQ e)) e
 exact h pins _ σ H xs _ Q I1 (by simpa using rv) hw
noncomputable def NU (to ti:TE)(t:Dh):TG:=λv σ H Q=>to σ H λo H1=>ti σ H1 λi H2=>t o i v H2 λH3=>Q σ H3
def ID {o i:Expr}{to ti:TE}{t:Dh}(ho:PE X o to)(hi:PE X i ti)(hs:Kr X t)
 (ha:∀v,assign (.Subscript o i pos) X.env v=(do
  let ov <- holding [v] (eval o X.env)
  let iv <- holding [v,ov] (eval i X.env)
  standAt pos
  holding [v,ov,iv] (setItem ov iv v)
  release [v,ov,iv] []):=by intro _;rfl):PG X (.Subscript o i pos) (NU to ti t):=by
 intro pins s σ H v u Q I r h;rw[ha];refine tqa (tqo (a9 (ho pins s σ H _ I h) λov s1 ⟨x,H1,I1,r1,q1⟩=>?_));refine tqa (tqo (a9 (hi pins s1 σ H1 _ I1 q1) λiv s2 ⟨y,H2,I2,r2,q2⟩=>?_));refine tqa (wpAny_standAt (tqa (tqo (a9 (hs pins s2 σ H2 x y v ov iv u _ I2 r1 r2 r q2) λ_ s3 ⟨H3,I3,q3⟩=>?_))));exact wpAny_release ⟨σ,H3,I3,q3⟩
noncomputable def Nh (te:TE)(g:TG):TS:=λD σ H=>te σ H λx H1=>g x σ H1 D.nx
def uo {tg e:Expr}{te:TE}{g:TG}(he:PE X e te)(hg:PG X tg g)(hs:swapsWithSole [tg] e pos.line X.env=pure false:=by rfl)(hw:swappedStores [tg] e X.env=pure none:=by rfl)
 (h1:(assignEach [tg] X.env).map (·.2)=[assign tg X.env]:=by rfl):PS X (.Assign [tg] e pos) (Nh te g):=by
 intro pins s σ H D I h;refine wpAny_Assign_stores (a9 (he pins s σ H _ I h) λv s1 ⟨x,H1,I1,r1,q1⟩=>?_) hs hw;rw[h1];exact a9 (hg pins s1 σ H1 x v _ I1 r1 q1) λ_ s2 q=>q
end
structure It where
 go:Nat->Hp->Prop
 yld:Nat->Hp->V->Hp->Prop
 stop:Nat->Hp->Prop
noncomputable def gF (X:Cx)(pins:List (Addr×Obj))(H:Hp)(b:Addr):Prop:=
 H b=none/\b≠X.env.locals/\b∉X.fs/\(b∈X.ex\/X.s₀.heap.objs.size<=b)/\(∀x c,X.env.cells.lookup x=some c->c≠b)/\∀p∈X.pn++pins,p.1≠b
def Inv.fpOk {X:Cx}{pins:List (Addr×Obj)}{σ:St}{H H':Hp}{s:OD}{b:Addr}(I:Inv X pins σ H s)(hb:s.heap.objs.size<=b)(hn:H' b=none):gF X pins H' b:=by
 refine{hn,P4 (OY I.lt hb),I.nofs hb,.inr (OI I.sz hb),λx c e z=>?_,λp hp z=>?_}
 ·obtain⟨v,q⟩:=I.cell x c e;exact absurd (OY q.lt (by rw[z];exact hb)) (PR _)
 ·exact absurd (OY (OQ (I.pin p hp).1) (by rw[z];exact hb)) (PR _)
structure Turn (P:OX) (w:O6) (K:OA) (tg:Expr) (J:It) (fp:List Addr) (it:Addr) (tn:Nat->Heap->Prop):Prop where
 mem:it∈fp
 obj:∀i h,tn i h->∀b∈fp,∃o,h.get? b=some o/\∀v,o.data≠.cell v
 keep:∀i h h',tn i h->(∀b∈fp,∀o,h.get? b=some o->h'.get? b=some o)->tn i h'
 item:∀(X:Cx),X.prog=P->X.w=w->X.K=K->X.calm=true->∀(i:Nat) (pins:List (Addr×Obj)) (s:OD) (σ:St) (H:Hp) (E:Oz->OD->Prop),Inv X pins σ H s->(∀b∈fp,gF X pins H b)->tn i s.heap->J.go i H->
  wpAny (model P w) X.A (pyNext (.ref it)) (λr s1=>∃u,r=some u/\
   wpAny (model P w) X.A (letOwnedTupleGo tg (.ref it) u) (λ_ s2=>∃x H',Inv X pins σ H' s2/\RelV x u/\J.yld i H x H'/\tn (i+1) s2.heap/\∀b∈fp,H' b=none) E s1) E s
 done:∀(X:Cx),X.prog=P->X.w=w->X.K=K->X.calm=true->∀(i:Nat) (pins:List (Addr×Obj)) (s:OD) (σ:St) (H:Hp) (E:Oz->OD->Prop),Inv X pins σ H s->(∀b∈fp,gF X pins H b)->tn i s.heap->J.stop i H->
  wpAny (model P w) X.A (pyNext (.ref it)) (λr s1=>r=none/\Inv X pins σ H s1) E s
 self:∀(A:Pu) (i:Nat) (s:OD) (Q:Oz->OD->Prop) (E:Oz->OD->Prop),tn i s.heap->Q (.ref it) s->wpAny (model P w) A (pyIter (.ref it)) Q E s
abbrev TI:=St->Hp->(It->Hp->Prop)->Prop
noncomputable def EK (X:Cx)(pins:List (Addr×Obj))(σ:St)(tg:Expr)(R:It->Hp->Prop)(itv:Oz)(s2:OD):Prop:=
 ∃(it:Addr) (fp:List Addr) (tn:Nat->Heap->Prop) (J:It) (H':Hp),itv=.ref it/\Inv X pins σ H' s2/\Turn X.prog X.w X.K tg J fp it tn/\tn 0 s2.heap/\(∀b∈fp,gF X pins H' b)/\R J H'
noncomputable def PI (X:Cx)(tg iter:Expr)(wi:TI):Prop:=
 ∀(pins:List (Addr×Obj)) (s:OD) (σ:St) (H:Hp) (R:It->Hp->Prop),Inv X pins σ H s->wi σ H R->
  wpAny (model X.prog X.w) X.A (eval iter X.env) (λv s1=>wpAny (model X.prog X.w) X.A (pyIter v) (EK X pins σ tg R) X.xe s1) X.xe s
def tj {M:Model}{A:Pu}{E:Oz->OD->Prop}{s:OD}{tg:Expr}{it:Addr}{u:Oz}{o:Obj}{n:String}{vs:Array Oz}{Q:Unit->OD->Prop}(ho:s.heap.get? it=some o)(hc:o.cls=.type n)(hd:o.data=.fields vs)
 (hn:["enumerate","zip","dict_itemiterator","dict_reverseitemiterator","odict_iterator","itertools.zip_longest","itertools.pairwise"].contains n=false) (hQ:Q () s):wpAny M A (letOwnedTupleGo tg (.ref it) u) Q E s:=by
 unfold letOwnedTupleGo;cases tg<;>first
  |exact tqb hQ
  |(cases u<;>first
   |exact tqb hQ
   | (refine tqa (wpAny_load ho ?_)
      rw[hc,hd];show wpAny M A (if (["enumerate","zip","dict_itemiterator","dict_reverseitemiterator","odict_iterator","itertools.zip_longest","itertools.pairwise"].contains n&&vs[0]?==some (rawInt _))=true then _ else _) Q E s;rw[if_neg (by intro h;rw[hn,Bool.false_and] at h;cases h)]
      exact tqb hQ))
noncomputable def Kv (K:OA)(a:Addr):It:=
 {λi H=>∃xs x,c9 K H a xs/\xs[i]?=some x,λi H x H'=>H'=H/\∀xs,c9 K H a xs->xs[i]?=some x,λi H=>∃xs,c9 K H a xs/\xs.length<=i}
noncomputable def Kt (K:OA)(a:Addr):It:=
 {λi H=>∃xs x,dQ K H a xs/\xs[i]?=some x,λi H x H'=>H'=H/\∀xs,dQ K H a xs->xs[i]?=some x,λi H=>∃xs,dQ K H a xs/\xs.length<=i}
noncomputable def EN (lo:Int)(n:Nat):It:={λi _=>i<n,λi H x H'=>H'=H/\x=.int (lo+i),λi _=>n<=i}
def zd {P:OX}{w:O6}{K:OA}{tg:Expr}(a it:Addr):Turn P w K tg (Kv K a) [it] it (λi h=>h.IsListIter it a i) where
 mem:=`s
 obj:=λi h st b hb=>by
  have e:b=it:=by simpa using hb
  subst e;obtain⟨o,e,c,d⟩:=st;exact{o,e,λv z=>by rw[d] at z;cases z}
 keep:=λi h h' st k=>st.at λo e=>k it `s o e
 item:=by
  intro X hP hw hK hc i pins s σ H E I hf st hg;subst hP hw hK;obtain⟨xs,x,hq,hx⟩:=hg;obtain⟨its,rv,p,hz⟩:=I.list hq;obtain⟨u,hu,ru⟩:=rv.get hx;obtain⟨f0,f1,f2,f3,f4,f5⟩:=hf it `s
  refine wpAny_pyNext_list_item st p.isList (x:=u) (by simpa using hu) λh' st' sb=>?_
  have I1:Inv X pins σ H {s with heap:=h'}:=I.turned (t':=s.toks) (λb o hb e=>(sb.2 b hb).trans e) f0 f1 f3 f4 f5
  obtain⟨o,e,c,d⟩:=id st';exact{u,rfl,tj (s:={s with heap:=h'}) e c d `d {x,H,I1,ru,{rfl,λys hy=>by rw[I.list_inj hy hq];exact hx},st',λb hb=>(hf b hb).1}}
 done:=by
  intro X hP hw hK hc i pins s σ H E I hf st hg;subst hP hw hK;obtain⟨xs,hq,hx⟩:=hg;obtain⟨its,rv,p,hz⟩:=I.list hq;obtain⟨f0,f1,f2,f3,f4,f5⟩:=hf it `s
  have hl:=rv.length;exact wpAny_pyNext_list_end (I.ok.hd hc) st p.isList `o λh' eb=>{rfl,I.turned (t':=s.toks) (λb o hb e=>eb b o hb e) f0 f1 f3 f4 f5}
 self:=λ_ _ _ _ _ st h=>wpAny_pyIter_listiter st h
def xh {P:OX}{w:O6}{K:OA}{tg:Expr}(a it:Addr):Turn P w K tg (Kt K a) [it] it (λi h=>h.IsTupleIter it a i) where
 mem:=`s
 obj:=λi h st b hb=>by
  have e:b=it:=by simpa using hb
  subst e;obtain⟨o,e,c,d⟩:=st;exact{o,e,λv z=>by rw[d] at z;cases z}
 keep:=λi h h' st k=>st.at λo e=>k it `s o e
 item:=by
  intro X hP hw hK hc i pins s σ H E I hf st hg;subst hP hw hK;obtain⟨xs,x,hq,hx⟩:=hg;obtain⟨its,rv,p,hz⟩:=I.tuple hq;obtain⟨u,hu,ru⟩:=rv.get hx;obtain⟨f0,f1,f2,f3,f4,f5⟩:=hf it `s
  refine wpAny_pyNext_tuple_item st (show s.heap.IsTuple a its.toArray from p) (x:=u) (by simpa using hu) λh' st' sb=>?_
  have I1:Inv X pins σ H {s with heap:=h'}:=I.turned (t':=s.toks) (λb o hb e=>(sb.2 b hb).trans e) f0 f1 f3 f4 f5
  obtain⟨o,e,c,d⟩:=id st';exact{u,rfl,tj (s:={s with heap:=h'}) e c d `d {x,H,I1,ru,{rfl,λys hy=>by rw[I.tuple_inj hy hq];exact hx},st',λb hb=>(hf b hb).1}}
 done:=by
  intro X hP hw hK hc i pins s σ H E I hf st hg;subst hP hw hK;obtain⟨xs,hq,hx⟩:=hg;obtain⟨its,rv,p,hz⟩:=I.tuple hq;obtain⟨f0,f1,f2,f3,f4,f5⟩:=hf it `s
  have hl:=rv.length;exact wpAny_pyNext_tuple_end (I.ok.hd hc) st (show s.heap.IsTuple a its.toArray from p) `o λh' eb=>{rfl,I.turned (t':=s.toks) (λb o hb e=>eb b o hb e) f0 f1 f3 f4 f5}
 self:=λ_ _ _ _ _ st h=>wpAny_pyIter_tupleiter st h
def xj {P:OX}{w:O6}{K:OA}{tg:Expr}(it:Addr)(lo:Int)(n:Nat):Turn P w K tg (EN lo n) [it] it (λi h=>IsRangeIter h it (lo+(i:Nat)*1) ((n:Int)-(i:Nat)) 1) where
 mem:=`s
 obj:=λi h st b hb=>by
  have e:b=it:=by simpa using hb
  subst e;exact{_,st,λv z=>by
   have z':Data.fields _=Data.cell v:=z;cases z'}
 keep:=λi h h' st k=>k it `s _ st
 item:=by
  intro X hP hw hK hc i pins s σ H E I hf st hg;subst hP hw hK;obtain⟨f0,f1,f2,f3,f4,f5⟩:=hf it `s
  have W:=Walks.range (prog:=X.prog) (w:=X.w) (I.ok.hd hc) it lo 1 n;refine W.item i s _ _ hg st λv h' tk hv st' kk=>?_;obtain⟨t,rfl⟩:=hv;have I1:Inv X pins σ H {s with heap:=h',toks:=tk}:=I.turned (λb o hb e=>kk b o (by simpa using hb) e) f0 f1 f3 f4 f5
  refine{_,rfl,tj (s:={s with heap:=h',toks:=tk}) (n:="range_iterator") st' rfl rfl `d {.int (lo+i),H,I1,{t,?_},⟨rfl,rfl⟩,st',λb hb=>(hf b hb).1}}
  rw[Int.mul_one]
 done:=by
  intro X hP hw hK hc i pins s σ H E I hf st hg;subst hP hw hK;obtain⟨f0,f1,f2,f3,f4,f5⟩:=hf it `s
  exact wpAny_pyNext_range_end (I.ok.hd hc) st (by have:n<=i:=hg;omega) λh' eb=>{rfl,I.turned (t':=s.toks) (λb o hb e=>eb b o hb e) f0 f1 f3 f4 f5}
 self:=λ_ _ _ _ _ st h=>wpAny_pyIter_rangeiter st h
section
variable{X:Cx}{tg:Expr}
noncomputable def Lw (K:OA)(tl:TE):TI:=λσ H R=>tl σ H λx H1=>∃a,x=.ref a/\(∃xs,c9 K H1 a xs)/\R (Kv K a) H1
noncomputable def NT (K:OA)(tl:TE):TI:=λσ H R=>tl σ H λx H1=>∃a,x=.ref a/\(∃xs,dQ K H1 a xs)/\R (Kt K a) H1
def FW {l:Expr}{tl:TE}(hl:PE X l tl):PI X tg l (Lw X.K tl):=by
 intro pins s σ H R I h;refine a9 (hl pins s σ H _ I h) λv s1 ⟨x,H1,I1,r1,q1⟩=>?_;obtain⟨a,e,⟨xs,hq⟩,q⟩:=q1;subst e;cases r1;obtain⟨its,rv,p,hz⟩:=I1.list hq;refine wpAny_pyIter_list p.isList ?_;refine{s1.heap.objs.size,[s1.heap.objs.size],_,_,H1,rfl,I1.kept (t':=s1.toks) λb o e=>OE _ e,zd a _,{_,OZ _ rfl,rfl,rfl},λb hb=>?_,q};have e:b=s1.heap.objs.size:=by simpa using hb
 subst e;exact I1.fpOk (OF _) (I1.hok.fresh (OF _))
def Iz {l:Expr}{tl:TE}(hl:PE X l tl):PI X tg l (NT X.K tl):=by
 intro pins s σ H R I h;refine a9 (hl pins s σ H _ I h) λv s1 ⟨x,H1,I1,r1,q1⟩=>?_;obtain⟨a,e,⟨xs,hq⟩,q⟩:=q1;subst e;cases r1;obtain⟨its,rv,p,hz⟩:=I1.tuple hq;refine wpAny_pyIter_tuple (show s1.heap.IsTuple a its.toArray from p) ?_;refine{s1.heap.objs.size,[s1.heap.objs.size],_,_,H1,rfl,I1.kept (t':=s1.toks) λb o e=>OE _ e,xh a _,{_,OZ _ rfl,rfl,rfl},λb hb=>?_,q};have e:b=s1.heap.objs.size:=by simpa using hb
 subst e;exact I1.fpOk (OF _) (I1.hok.fresh (OF _))
def B4 {pins:List (Addr×Obj)}{σ:St}{H:Hp}{s:OD}{R:It->Hp->Prop}{E:Oz->OD->Prop}{lo hi:Int}{t u v:Tok}{tk:Nat}(I:Inv X pins σ H s)(h1:-(2^62)<=lo)(h2:lo<2^62)(h3:-(2^62)<=hi)(h4:hi<2^62)
 (q:R (EN lo (hi-lo).toNat) H):wpAny (model X.prog X.w) X.A (pyIter (.ref s.heap.objs.size)) (EK X pins σ tg R) E {s with heap:=s.heap.push {cls:=.type "range",data:=.fields #[.int lo t,.int hi u,.int 1 v]},toks:=tk}:=by
 refine wpAny_pyIter_range (IsRange.new ..) (small_one h1 h2 h3 h4) ?_;have I1:Inv X pins σ H {s with heap:=s.heap.push {cls:=.type "range",data:=.fields #[.int lo t,.int hi u,.int 1 v]},toks:=tk}:=I.kept λb o e=>OE _ e
 refine{(s.heap.push {cls:=.type "range",data:=.fields #[.int lo t,.int hi u,.int 1 v]}).objs.size,[(s.heap.push {cls:=.type "range",data:=.fields #[.int lo t,.int hi u,.int 1 v]}).objs.size],_,_,H,rfl,
  I1.kept (t':=tk) λb o e=>OE _ e,xj _ lo (hi-lo).toNat,?_,λb hb=>?_,q}
 ·have e1:lo+((0:Nat):Int)*1=lo:=`s
  have e2:(((hi-lo).toNat:Nat):Int)-((0:Nat):Int)=Builtin.Range.rangeSize lo hi 1:=by rw[rangeSize_one];split<;>omega
  show IsRangeIter _ _ (lo+((0:Nat):Int)*1) ((((hi-lo).toNat:Nat):Int)-((0:Nat):Int)) 1;rw[e1,e2];exact OZ _ rfl
 ·have e:b=(s.heap.push {cls:=.type "range",data:=.fields #[.int lo t,.int hi u,.int 1 v]}).objs.size:=by simpa using hb
  subst e;exact I1.fpOk (OF _) (I1.hok.fresh (OF _))
noncomputable def Lv (ta:TA):TI:=λσ H R=>ta σ H λvs H1=>∃j:Int,vs=[.int j]/\-(2^62)<=j/\j<2^62/\R (EN 0 j.toNat) H1
def zP {a:Expr}{ta:TA}{p pos:Pos}(hg:Gl X "range")(hm:X.mg "range"=none)(ha:PA X [a] ta)(hs:starEach [a] X.env=[(false,eval a X.env)]:=by rfl):PI X tg (.Call (.Name "range" p) [a] [] pos) (Lv ta):=by
 intro pins s σ H R I h;refine Call_ (iw I hg hm boot_range (PM (a9 (ha pos pins s σ H _ I h) λus s1 ⟨vs,H1,I1,r1,q1⟩=>?_) hs rfl));obtain⟨j,e,q1,q2,q⟩:=q1;subst e;cases r1 with
 | cons r rr =>
   cases rr;obtain⟨t,rfl⟩:=r;exact call_range_1 (B4 I1 `a `a q1 q2 (by simpa using q))
noncomputable def Ng (wi:TI)(g:TG)(tb:TS):TS:=λD σ H=>wi σ H λJ H1=>∃W:Nat->Nat->St->Hp->Prop,(∃m,W 0 m σ H1)/\∀i m σ H,W i m σ H->
 (J.stop i H/\D.nx σ H)\/(J.go i H/\∃N:St->Hp->Prop,(∀σ' H',N σ' H'->∃m',m'<m/\W (i+1) m' σ' H')/\∀x H',J.yld i H x H'->g x σ H' λσ2 H2=>tb {D with nx:=N,ct:=N,bk:=D.nx} σ2 H2)
noncomputable def pJ (fp:List Addr)(h:Heap):List (Addr×Obj):=fp.filterMap λb=>(h.get? b).map λo=>(b,o)
def jJ {fp:List Addr}{h:Heap}{b:Addr}{o:Obj}(hb:b∈fp)(e:h.get? b=some o):(b,o)∈pJ fp h:=List.mem_filterMap.mpr {b,hb,by rw[e];rfl}
def zZ {fp:List Addr}{h:Heap}{p:Addr×Obj}(hp:p∈pJ fp h):p.1∈fp/\h.get? p.1=some p.2:=by
 obtain⟨b,hb,e⟩:=List.mem_filterMap.mp hp;cases q:h.get? b with
 |none=>rw[q] at e;cases e
 | some o =>
   rw[q] at e;have e':(b,o)=p:=OG e;subst e';exact⟨hb,q⟩
def Inv.pinned {pins:List (Addr×Obj)}{σ:St}{H:Hp}{s:OD}{fp:List Addr}(I:Inv X pins σ H s)(hf:∀b∈fp,gF X pins H b)(ho:∀b∈fp,∃o,s.heap.get? b=some o/\∀v,o.data≠.cell v):Inv X (pins++pJ fp s.heap) σ H s:=
 I.pins_of λp hp=>(Pe.mp hp).elim (λz=>I.pin p (Pq _ z)) λz=>by
  obtain⟨hb,e⟩:=zZ z;obtain⟨f0,f1,f2,_⟩:=hf p.1 hb;obtain⟨o,e',d⟩:=ho p.1 hb;rw[e] at e';cases e';exact⟨e,f0,f1,f2,d⟩
def Inv.unpinned {pins pl:List (Addr×Obj)}{σ:St}{H:Hp}{s:OD}(I:Inv X (pins++pl) σ H s):Inv X pins σ H s:=I.pins_of λp hp=>I.pin p (Pq _ (Qe _ hp))
def Iw {iter:Expr}{body:List Stmt}{wi:TI}{g:TG}{tb:TS}{pos:Pos}(hp:PassesOwn (model X.prog X.w) X.A X.env X.xe)(hc:X.calm=true)(hi:PI X tg iter wi)(hg:PG X tg g)(hb:nh X body tb)
 (hs:∀x,foldedSetIterable iter X.env x=pure x:=by intro _;rfl):PS X (.For tg iter body [] pos) (Ng wi g tb):=by
 intro pins s σ H D I h;refine wpAny_For (a9 (hi pins s σ H _ I h) λv s1 h1=>a9 h1 λitv s2 h2=>?_) hs;obtain⟨it,fp,tn,J,H2,e,I2,T,st2,f2,W,⟨m0,w0⟩,turn⟩:=h2;subst e;have stat:∀{H':Hp},(∀b∈fp,H' b=none)->∀b∈fp,gF X pins H' b:=λhn b hb=>{hn b hb,(f2 b hb).2};refine codeAny_forLoop_any (λn s'=>∃i σ' H',Inv X pins σ' H' s'/\tn i s'.heap/\(∀b∈fp,H' b=none)/\W i n σ' H') ?_ m0 {0,σ,H2,I2,st2,λb hb=>(f2 b hb).1,w0};rintro n s3 ⟨i,σ3,H3,I3,st3,fr3,w3⟩;rcases turn i n σ3 H3 w3 with⟨stop,qn⟩|⟨go,N,hN,step⟩
 ·refine wpAny_passesOwn hp (a9 (T.done X rfl rfl rfl hc i pins s3 σ3 H3 X.xe I3 (stat fr3) st3 stop) λr s4 ⟨hr,I4⟩=>?_);subst hr;exact wpAny_execs_nil ⟨σ3,H3,I4,qn⟩
 ·refine wpAny_passesOwn hp (a9 (T.item X rfl rfl rfl hc i pins s3 σ3 H3 X.xe I3 (stat fr3) st3 go) λr s4 ⟨u,hr,h4⟩=>?_);subst hr;refine wpAny_passesOwn hp (a9 h4 λ_ s5 ⟨x,H5,I5,r5,y5,st5,fr5⟩=>?_);have I5':=I5.pinned (stat fr5) (T.obj _ _ st5);refine wpAny_passesOwn hp (a9 (hg _ s5 σ3 H5 x u _ I5' r5 (step x H5 y5)) λ_ s6 ⟨σ6,H6,I6,q6⟩=>?_);refine wpAny_passesOwn hp (a9 (hb _ s6 σ6 H6 _ I6 q6) λf s7 q7=>?_);have again:∀{σ7:St}{H7:Hp},Inv X (pins++pJ fp s5.heap) σ7 H7 s7->N σ7 H7->∃m,m<n/\∃i σ' H',Inv X pins σ' H' s7/\tn i s7.heap/\(∀b∈fp,H' b=none)/\W i m σ' H':=λ{σ7 H7} I7 n7=>by
   obtain⟨m',hm,w7⟩:=hN σ7 H7 n7;refine{m',hm,i+1,σ7,H7,I7.unpinned,T.keep _ _ _ st5 λb hb o e=>(I7.pin (b,o) (Pq _ (Pq _ (jJ hb e)))).1,λb hb=>?_,w7};obtain⟨o,e,d⟩:=T.obj _ _ st5 b hb;exact(I7.pin (b,o) (Pq _ (Pq _ (jJ hb e)))).2.1
  cases f with
  |next=>obtain⟨σ7,H7,I7,n7⟩:=q7;exact again I7 n7
  |cont=>obtain⟨σ7,H7,I7,n7⟩:=q7;exact again I7 n7
  |brk=>obtain⟨σ7,H7,I7,q7⟩:=q7;exact⟨σ7,H7,I7.unpinned,q7⟩
  |ret v=>obtain⟨x7,σ7,H7,I7,r7,q7⟩:=q7;exact⟨x7,σ7,H7,I7.unpinned,r7,q7⟩
end
abbrev R2:=V->V->Hp->VK->Prop
noncomputable def bV (X:Cx)(f:Oz->Oz->Sem Oz)(r:R2):Prop:=
 ∀(pins:List (Addr×Obj)) (s:OD) (σ:St) (H:Hp) (x y:V) (v u:Oz) (Q:VK),Inv X pins σ H s->RelV x v->RelV y u->r x y H Q->
  wpAny (model X.prog X.w) X.A (f v u) (EP X pins σ Q) X.xe s
noncomputable def Km (X:Cx)(f:Oz->Sem Oz)(r:V->Hp->VK->Prop):Prop:=
 ∀(pins:List (Addr×Obj)) (s:OD) (σ:St) (H:Hp) (x:V) (v:Oz) (Q:VK),Inv X pins σ H s->RelV x v->r x H Q->
  wpAny (model X.prog X.w) X.A (f v) (EP X pins σ Q) X.xe s
noncomputable def di (X:Cx)(f:Oz)(r:List V->Hp->VK->Prop):Prop:=
 ∀(pins:List (Addr×Obj)) (s:OD) (σ:St) (H:Hp) (xs:List V) (us:List Oz) (Q:VK),Inv X pins σ H s->Vals xs us->r xs H Q->
  wpAny (model X.prog X.w) X.A (call f us) (EP X pins σ Q) X.xe s
noncomputable def Oc (X:Cx)(r:V->Hp->(Bool->Hp->Prop)->Prop):Prop:=
 ∀(pins:List (Addr×Obj)) (s:OD) (σ:St) (H:Hp) (x:V) (v:Oz) (Q:Bool->Hp->Prop),Inv X pins σ H s->RelV x v->r x H Q->
  wpAny (model X.prog X.w) X.A (truthy v) (TP X pins σ Q) X.xe s
noncomputable def zi (r:R2)(ta tb:TE):TE:=λσ H Q=>ta σ H λx H1=>tb σ H1 λy H2=>r x y H2 Q
noncomputable def tUn (r:V->Hp->VK->Prop)(ta:TE):TE:=λσ H Q=>ta σ H λx H1=>r x H1 Q
noncomputable def rI (C:Int->Int->Prop)(g:Int->Int->V):R2:=λx y H Q=>∃i j,x=.int i/\y=.int j/\C i j/\Q (g i j) H
noncomputable def rV (g:Int->Int->V):R2:=λx y H Q=>∃i j,x=.int i/\y=.int j/\Q (g i j) H
noncomputable def rU (g:Int->V):V->Hp->VK->Prop:=λx H Q=>∃i,x=.int i/\Q (g i) H
section
variable{X:Cx}{a b c:Expr}{ta tb tc:TE}{pos:Pos}
def Dc (ha:PE X a ta)(hb:PE X b tb){pins:List (Addr×Obj)}{s:OD}{σ:St}{H:Hp}{R:V->V->Hp->Prop}(I:Inv X pins σ H s)
 (h:ta σ H λx H1=>tb σ H1 λy H2=>R x y H2) {Q:Oz->OD->Prop}{f:Oz->Oz->Sem Oz}
 (hf:∀v u s2 x y H2,Inv X pins σ H2 s2->RelV x v->RelV y u->R x y H2->wpAny (model X.prog X.w) X.A (f v u) Q X.xe s2) :
 wpAny (model X.prog X.w) X.A (eval a X.env) (λv s₁=>wpAny (model X.prog X.w) X.A (eval b X.env) (λu s₂=>wpAny (model X.prog X.w) X.A (f v u) Q X.xe s₂) X.xe s₁) X.xe s:=by
 refine a9 (ha pins s σ H _ I h) λv s1 ⟨x,H1,I1,r1,q1⟩=>?_;refine a9 (hb pins s1 σ H1 _ I1 q1) λu s2 ⟨y,H2,I2,r2,q2⟩=>?_;exact hf v u s2 x y H2 I2 r1 r2 q2
def Le {op:Operator}{r:R2}(ho:bV X (binaryOp op) r)(ha:PE X a ta)(hb:PE X b tb):PE X (.BinOp a op b pos) (zi r ta tb):=by
 intro pins s σ H Q I h;exact wpAny_BinOp (Dc ha hb I h λv u s2 x y H2 I2 rx ry q=>ho pins s2 σ H2 x y v u Q I2 rx ry q)
def DZ {op:UnaryOp}{r:V->Hp->VK->Prop}(ho:Km X (unaryOp op) r)(ha:PE X a ta):PE X (.UnaryOp op a pos) (tUn r ta):=by
 intro pins s σ H Q I h;exact UnaryOp_ (a9 (ha pins s σ H _ I h) λv s1 ⟨x,H1,I1,r1,q1⟩=>ho pins s1 σ H1 x v Q I1 r1 q1)
def D5 {f:Oz->Oz->Sem Oz}{C:Int->Int->Prop}{g:Int->Int->Int}
 (rule:∀(i j:Int) (t u:Tok) (s:OD) (Q:Oz->OD->Prop) (E:Oz->OD->Prop),C i j->Q (.int (g i j) s.toks) {s with toks:=s.toks+1}->wpAny (model X.prog X.w) X.A (f (.int i t) (.int j u)) Q E s) :
 bV X f (rI C λi j=>.int (g i j)):=by
 intro pins s σ H x y v u Q I rx ry h;obtain⟨i,j,rfl,rfl,hc,q⟩:=h;obtain⟨t,rfl⟩:=rx;obtain⟨t',rfl⟩:=ry;exact rule i j t t' s _ _ hc {.int (g i j),H,I.tok _,{_,rfl},q}
def I0 {f:Oz->Oz->Sem Oz}{g:Int->Int->Int}
 (rule:∀(i j:Int) (t u:Tok) (s:OD) (Q:Oz->OD->Prop) (E:Oz->OD->Prop),Q (.int (g i j) s.toks) {s with toks:=s.toks+1}->wpAny (model X.prog X.w) X.A (f (.int i t) (.int j u)) Q E s) :
 bV X f (rV λi j=>.int (g i j)):=by
 intro pins s σ H x y v u Q I rx ry h;obtain⟨i,j,rfl,rfl,q⟩:=h;obtain⟨t,rfl⟩:=rx;obtain⟨t',rfl⟩:=ry;exact rule i j t t' s _ _ {.int (g i j),H,I.tok _,{_,rfl},q}
def xF {f:Oz->Oz->Sem Oz}{g:Int->Int->Bool}
 (rule:∀(i j:Int) (t u:Tok) (s:OD) (Q:Oz->OD->Prop) (E:Oz->OD->Prop),Q (.bool (g i j)) s->wpAny (model X.prog X.w) X.A (f (.int i t) (.int j u)) Q E s) :
 bV X f (rV λi j=>.bl (g i j)):=by
 intro pins s σ H x y v u Q I rx ry h;obtain⟨i,j,rfl,rfl,q⟩:=h;obtain⟨t,rfl⟩:=rx;obtain⟨t',rfl⟩:=ry;exact rule i j t t' s _ _ {.bl (g i j),H,I,rfl,q}
def Kz (i j:Int):Prop:=0<j/\j<1073741824
def Ky (i j:Int):Prop:=0<=j/\j<=1000000/\i.natAbs<2^64
noncomputable def Dl (i j:Int):Prop:=(-(2^64)<i/\i<2^64)\/(-(2^64)<j/\j<2^64)
def Dl.ok {i j:Int}(h:Dl i j):IntMulOk i j:=by
 rcases h with⟨h1,h2⟩|⟨h1,h2⟩
 ·exact .of_left (intBits_le_64 h1 h2)
 ·exact .of_right (intBits_le_64 h1 h2)
def IZ:bV X (binaryOp .Add) (rV λi j=>.int (i+j)):=I0 λ_ _ _ _ _ _ _ q=>add_int q
def IS:bV X (binaryOp .Sub) (rV λi j=>.int (i-j)):=I0 λ_ _ _ _ _ _ _ q=>sub_int q
def IV:bV X (binaryOp .Mult) (rI Dl λi j=>.int (i*j)):=D5 λ_ _ _ _ _ _ _ hc q=>mul_int q hc.ok
def F2:bV X (binaryOp .FloorDiv) (rI Kz λi j=>.int (i / j)):=D5 λi j _ _ _ _ _ hc q=>by
 have h1:(0:Int)<j:=hc.1;have h2:j<1073741824:=hc.2;exact floordiv_int `a (by rw[Int.fdiv_eq_ediv_of_nonneg i `a];exact q) (.inl (PyProof.noPylong_small `a))
def IW:bV X (binaryOp .Mod) (rI (λ_ j=>0<j) λi j=>.int (i % j)):=D5 λi j _ _ _ _ _ hc q=>by
 have h1:(0:Int)<j:=hc;exact mod_int' `a (by rw[Int.fmod_eq_emod_of_nonneg i `a];exact q)
def IU:bV X (binaryOp .Pow) (rI Ky λi j=>.int (i^j.toNat)):=D5 λ_ _ _ _ _ _ _ hc q=>pow_int_small hc.1 hc.2.1 hc.2.2 q
def unI {f:Oz->Sem Oz}{g:Int->Int}
 (rule:∀(i:Int) (t:Tok) (s:OD) (Q:Oz->OD->Prop) (E:Oz->OD->Prop),Q (.int (g i) s.toks) {s with toks:=s.toks+1}->wpAny (model X.prog X.w) X.A (f (.int i t)) Q E s) :
 Km X f (rU λi=>.int (g i)):=by
 intro pins s σ H x v Q I rx h;obtain⟨i,rfl,q⟩:=h;obtain⟨t,rfl⟩:=rx;exact rule i t s _ _ {.int (g i),H,I.tok _,{_,rfl},q}
def yS:Km X (unaryOp .USub) (rU λi=>.int (-i)):=unI λ_ _ _ _ _ q=>neg_int q
end
noncomputable def HK:V->V->Bool
 |.non,.non=>true|.non,.int _=>true|.int _,.non=>true|.non,.bl _=>true|.bl _,.non=>true|.non,.str _=>true|.str _,.non=>true
 |.int _,.int _=>true|.bl _,.bl _=>true|.str _,.str _=>true|.byt _,.byt _=>true
 |.int _,.str _=>true|.str _,.int _=>true|.bl _,.str _=>true|.str _,.bl _=>true
 |_,_=>false
noncomputable def rEq:R2:=λx y H Q=>HK x y=true/\Q (.bl (decide (x=y))) H
noncomputable def rNe:R2:=λx y H Q=>HK x y=true/\Q (.bl (!decide (x=y))) H
def wR {i j:Int}:decide (V.int i=V.int j)=(i==j):=by
 rw[Qk];simp
def AN {i j:Bool}:decide (V.bl i=V.bl j)=(i==j):=by
 rw[Qk];simp
def nO {i j:Str}:decide (V.str i=V.str j)=(i==j):=by
 rw[Qk];simp
def wU {i j:Array UInt8}:decide (V.byt i=V.byt j)=(i.toList==j.toList):=by
 rw[Qk];cases i;cases j;simp
section
variable{X:Cx}{a b c:Expr}{ta tb tc:TE}{pos:Pos}
def bA {pins:List (Addr×Obj)}{σ:St}{H:Hp}{s:OD}{Q:VK}{k k':Bool}(I:Inv X pins σ H s)(q:Q (.bl k) H)(e:k=k'):EP X pins σ Q (.bool k') s:=by
 subst e;exact{.bl k,H,I,rfl,q}
def Lo:bV X (compareOp .Eq) rEq:=by
 intro pins s σ H x y v u Q I rx ry h;obtain⟨hs,q⟩:=h;cases x with
 | non =>
   cases rx;cases y with
   |non=>cases ry;exact PySem.EqNone.eq_none_none (bA I q `s)
   |bl j=>cases ry;exact PySem.EqNone.eq_none_bool (bA I q `s)
   |int j=>obtain⟨t',rfl⟩:=ry;exact PySem.EqNone.eq_none_int (bA I q `s)
   |str j=>obtain⟨t',rfl⟩:=ry;exact PySem.EqNone.eq_none_str (bA I q `s)
   |_=>exact absurd (show false=true from hs) Pc
 | bl i =>
   cases rx;cases y with
   |non=>cases ry;exact PySem.EqNone.eq_bool_none (bA I q `s)
   |bl j=>cases ry;exact eq_bool (bA I q AN)
   |str j=>obtain⟨t',rfl⟩:=ry;exact PySem.EqMixed.eq_bool_str (bA I q `s)
   |_=>exact absurd (show false=true from hs) Pc
 | int i =>
   obtain⟨t,rfl⟩:=rx;cases y with
   |non=>cases ry;exact PySem.EqNone.eq_int_none (bA I q `s)
   |int j=>obtain⟨t',rfl⟩:=ry;exact eq_int (bA I q wR)
   |str j=>obtain⟨t',rfl⟩:=ry;exact PySem.EqMixed.eq_int_str (bA I q `s)
   |_=>exact absurd (show false=true from hs) Pc
 | str i =>
   obtain⟨t,rfl⟩:=rx;cases y with
   |non=>cases ry;exact PySem.EqNone.eq_str_none (bA I q `s)
   |bl j=>cases ry;exact PySem.EqMixed.eq_str_bool (bA I q `s)
   |int j=>obtain⟨t',rfl⟩:=ry;exact PySem.EqMixed.eq_str_int (bA I q `s)
   |str j=>obtain⟨t',rfl⟩:=ry;exact eq_str (bA I q nO)
   |_=>exact absurd (show false=true from hs) Pc
 | byt i =>
   obtain⟨t,rfl⟩:=rx;cases y with
   |byt j=>obtain⟨t',rfl⟩:=ry;exact PySem.W.eq_bytes (bA I q wU)
   |_=>exact absurd (show false=true from hs) Pc
 |_=>cases y<;>exact absurd (show false=true from hs) Pc
def Lj:bV X (compareOp .NotEq) rNe:=by
 intro pins s σ H x y v u Q I rx ry h;obtain⟨hs,q⟩:=h;cases x with
 | non =>
   cases rx;cases y with
   |non=>cases ry;exact PySem.EqNone.ne_none_none (bA I q `s)
   |bl j=>cases ry;exact PySem.EqNone.ne_none_bool (bA I q `s)
   |int j=>obtain⟨t',rfl⟩:=ry;exact PySem.EqNone.ne_none_int (bA I q `s)
   |str j=>obtain⟨t',rfl⟩:=ry;exact PySem.EqNone.ne_none_str (bA I q `s)
   |_=>exact absurd (show false=true from hs) Pc
 | bl i =>
   cases rx;cases y with
   |non=>cases ry;exact PySem.EqNone.ne_bool_none (bA I q `s)
   |bl j=>cases ry;exact ne_bool (bA I q (congrArg not AN))
   |str j=>obtain⟨t',rfl⟩:=ry;exact PySem.EqMixed.ne_bool_str (bA I q `s)
   |_=>exact absurd (show false=true from hs) Pc
 | int i =>
   obtain⟨t,rfl⟩:=rx;cases y with
   |non=>cases ry;exact PySem.EqNone.ne_int_none (bA I q `s)
   |int j=>obtain⟨t',rfl⟩:=ry;exact ne_int (bA I q (congrArg not wR))
   |str j=>obtain⟨t',rfl⟩:=ry;exact PySem.EqMixed.ne_int_str (bA I q `s)
   |_=>exact absurd (show false=true from hs) Pc
 | str i =>
   obtain⟨t,rfl⟩:=rx;cases y with
   |non=>cases ry;exact PySem.EqNone.ne_str_none (bA I q `s)
   |bl j=>cases ry;exact PySem.EqMixed.ne_str_bool (bA I q `s)
   |int j=>obtain⟨t',rfl⟩:=ry;exact PySem.EqMixed.ne_str_int (bA I q `s)
   |str j=>obtain⟨t',rfl⟩:=ry;exact ne_str (bA I q (congrArg not nO))
   |_=>exact absurd (show false=true from hs) Pc
 | byt i =>
   obtain⟨t,rfl⟩:=rx;cases y with
   |byt j=>obtain⟨t',rfl⟩:=ry;exact PySem.W.ne_bytes (bA I q (congrArg not wU))
   |_=>exact absurd (show false=true from hs) Pc
 |_=>cases y<;>exact absurd (show false=true from hs) Pc
def Lk:bV X (compareOp .Lt) (rV λi j=>.bl (decide (i<j))):=xF λ_ _ _ _ _ _ _ q=>lt_int q
def Ll:bV X (compareOp .LtE) (rV λi j=>.bl (decide (i<=j))):=xF λ_ _ _ _ _ _ _ q=>le_int q
def Lm:bV X (compareOp .Gt) (rV λi j=>.bl (decide (j<i))):=xF λ_ _ _ _ _ _ _ q=>gt_int q
def Ln:bV X (compareOp .GtE) (rV λi j=>.bl (decide (j<=i))):=xF λ_ _ _ _ _ _ _ q=>ge_int q
def zX:bV X (compareOp .In) (λx y H Q=>∃i j,x=.str i/\y=.str j/\Q (.bl (!(Builtin.Str.occurrences j i 0 j.length 1).isEmpty)) H):=by
 intro pins s σ H x y v u Q I rx ry h;obtain⟨i,j,rfl,rfl,q⟩:=h;obtain⟨t,rfl⟩:=rx;obtain⟨t',rfl⟩:=ry;exact in_str (bA I q rfl)
def IX:bV X (compareOp .Is) (λx y H Q=>y=.non/\Q (.bl (decide (x=.non))) H):=by
 intro pins s σ H x y v u Q I rx ry h;obtain⟨rfl,q⟩:=h;cases ry;refine is_none_gen (bA I q ?_);cases x<;>first
  |(cases rx;rfl)
  |(obtain⟨t,rfl⟩:=rx;rfl)
def F1:bV X (compareOp .IsNot) (λx y H Q=>y=.non/\Q (.bl (!decide (x=.non))) H):=by
 intro pins s σ H x y v u Q I rx ry h;obtain⟨rfl,q⟩:=h;cases ry;refine isnot_none_gen (bA I q ?_);cases x<;>first
  |(cases rx;rfl)
  |(obtain⟨t,rfl⟩:=rx;rfl)
def uy:bV X (compareOp .NotIn) (λx y H Q=>∃i j,x=.str i/\y=.str j/\Q (.bl (!(!(Builtin.Str.occurrences j i 0 j.length 1).isEmpty))) H):=by
 intro pins s σ H x y v u Q I rx ry h;obtain⟨i,j,rfl,rfl,q⟩:=h;obtain⟨t,rfl⟩:=rx;obtain⟨t',rfl⟩:=ry;exact notIn_str (bA I q rfl)
def wt {op:CmpOp}{r:R2}(ho:bV X (compareOp op) r)(ha:PE X a ta)(hb:PE X b tb)(hm:behindInMarks op b=false):PE X (.Compare a [op] [b] pos) (zi r ta tb):=by
 intro pins s σ H Q I h;exact wpAny_Compare1 (Dc ha hb I h λv u s2 x y H2 I2 rx ry q=>ho pins s2 σ H2 x y v u Q I2 rx ry q) hm
noncomputable def DK (t:TE):TT:=λσ H Q=>t σ H λx H'=>∃k,x=.bl k/\Q k H'
def qD {op:CmpOp}{r:R2}(ho:bV X (compareOp op) r)(ha:PE X a ta)(hb:PE X b tb)(hm:behindInMarks op b=false):PT X (.Compare a [op] [b] pos) (DK (zi r ta tb)):=by
 intro pins s σ H Q I h;refine wpAny_isTrue_Compare1 (a9 (ha pins s σ H _ I h) λv s1 ⟨x,H1,I1,r1,q1⟩=>a9 (hb pins s1 σ H1 _ I1 q1) λu s2 ⟨y,H2,I2,r2,q2⟩=>
  a9 (ho pins s2 σ H2 x y v u _ I2 r1 r2 q2) λc s3 ⟨z,H3,I3,r3,k,e,q3⟩=>?_) hm
 subst e;cases r3;exact tqp ⟨H3,I3,q3⟩
noncomputable def tU (r r':R2)(ta tb tc:TE):TE:=λσ H Q=>ta σ H λx H1=>tb σ H1 λy H2=>r x y H2 λz H3=>∃k,z=.bl k/\
 (if k=true then tc σ H3 λw' H4=>r' y w' H4 Q else Q (.bl false) H3)
def Cb {op op':CmpOp}{r r':R2}(ho:bV X (compareOp op) r)(ho':bV X (compareOp op') r')(ha:PE X a ta)(hb:PE X b tb)(hc:PE X c tc)
 (hm:lastMarks [op,op'] [b,c]=false:=by with_unfolding_all rfl):PE X (.Compare a [op,op'] [b,c] pos) (tU r r' ta tb tc):=by
 intro pins s σ H Q I h;refine Compare_chain (a9 (ha pins s σ H _ I h) λv s1 ⟨x,H1,I1,r1,q1⟩=>chain_link (a9 (hb pins s1 σ H1 _ I1 q1) λu s2 ⟨y,H2,I2,r2,q2⟩=>
  a9 (ho pins s2 σ H2 x y v u _ I2 r1 r2 q2) λd s3 ⟨z,H3,I3,r3,k,e,q3⟩=>?_)) hm
 subst e;cases r3;refine tqp ?_;cases k with
 |false=>exact ite_ff {.bl false,H3,I3,rfl,q3}
 |true=>exact ite_tt (chain_last (a9 (hc pins s3 σ H3 _ I3 q3) λw' s4 ⟨z',H4,I4,r4,q4⟩=>ho' pins s4 σ H4 y z' u w' Q I4 r2 r4 q4))
def B6 {op op':CmpOp}{r r':R2}(ho:bV X (compareOp op) r)(ho':bV X (compareOp op') r')(ha:PE X a ta)(hb:PE X b tb)(hc:PE X c tc)
 (hm:lastMarks [op,op'] [b,c]=false:=by with_unfolding_all rfl):PT X (.Compare a [op,op'] [b,c] pos) (DK (tU r r' ta tb tc)):=by
 intro pins s σ H Q I h;refine isTrue_chain (a9 (ha pins s σ H _ I h) λv s1 ⟨x,H1,I1,r1,q1⟩=>test_link (a9 (hb pins s1 σ H1 _ I1 q1) λu s2 ⟨y,H2,I2,r2,q2⟩=>
  a9 (ho pins s2 σ H2 x y v u _ I2 r1 r2 q2) λd s3 ⟨z,H3,I3,r3,k,e,q3⟩=>?_)) hm
 subst e;cases r3;refine tqp ?_;cases k with
 | false =>
   obtain⟨k',e',q'⟩:=q3;cases e';exact ite_ff ⟨H3,I3,q'⟩
 | true =>
   refine ite_tt (test_last (a9 (hc pins s3 σ H3 _ I3 q3) λw' s4 ⟨z',H4,I4,r4,q4⟩=>a9 (ho' pins s4 σ H4 y z' u w' _ I4 r2 r4 q4) λd' s5 ⟨z2,H5,I5,r5,k2,e2,q5⟩=>?_));subst e2;cases r5;exact tqp ⟨H5,I5,q5⟩
noncomputable def Dg (K:OA)(x:V)(H:Hp)(k:Bool):Prop:=
 match x with
 |.non=>k=false
 |.bl b=>k=b
 |.int i=>k=(i != 0)
 |.str y=>y.length<=sizeLine/\k=((y.length:Int) != 0)
 |.byt y=>y.size<=sizeLine/\k=((y.size:Int) != 0)
 |.ref p=>(∃xs,c9 K H p xs/\k=!xs.isEmpty)\/(∃xs,dQ K H p xs/\k=!xs.isEmpty)\/∃kvs,H p=some (.dK kvs)/\k=!kvs.isEmpty
 |_=>False
def yf {κ:Type}{kvs:List (κ×V)}{vs:List (κ×Oz)}(r:KV kvs vs):(!vs.isEmpty)=!kvs.isEmpty:=by
 cases r<;>rfl
def pY {xs:List V}{its:List Oz}(r:Vals xs its):(!its.toArray.isEmpty)=!xs.isEmpty:=by
 cases r<;>simp
def kg:(sizeLine:Nat)<2^63:=by rw[sizeLine_eq];decide
def Hw:Oc X (λx H Q=>∃k,Dg X.K x H k/\Q k H):=by
 intro pins s σ H x v Q I rx h;obtain⟨k,e,q⟩:=h;have hl:=kg;have hs:sizeLine=16777216:=sizeLine_eq;cases x with
 | non =>
   cases rx;have e':k=false:=e;subst e';exact truthy_none ⟨H,I,q⟩
 | bl b =>
   cases rx;have e':k=b:=e;subst e';exact tqp ⟨H,I,q⟩
 | int i =>
   obtain⟨t,rfl⟩:=rx;have e':k=(i != 0):=e;subst e';exact PySem.P.truthy_int ⟨H,I,q⟩
 | str y =>
   obtain⟨t,rfl⟩:=rx;obtain⟨hy,e'⟩:y.length<=sizeLine/\k=((y.length:Int) != 0):=e;subst e';exact PySem.P.truthy_str `a {H,I.tok _,q}
 | byt y =>
   obtain⟨t,rfl⟩:=rx;obtain⟨hy,e'⟩:y.size<=sizeLine/\k=((y.size:Int) != 0):=e;subst e';exact PySem.W.truthy_bytes `a {H,I.tok _,q}
 | ref p =>
   cases rx;have e':(∃xs,c9 X.K H p xs/\k=!xs.isEmpty)\/(∃xs,dQ X.K H p xs/\k=!xs.isEmpty)\/∃kvs,H p=some (.dK kvs)/\k=!kvs.isEmpty:=e;rcases e' with⟨xs,hx,e'⟩|⟨xs,hx,e'⟩|⟨kvs,hx,e'⟩
   ·subst e';obtain⟨its,r,pl,hz⟩:=I.list hx;have hlen:=r.length;exact wpAny_truthy_list pl.isList (by simp only[OH];omega) {H,I.tok _,by rw[pY r];exact q}
   ·subst e';obtain⟨its,r,pl,hz⟩:=I.tuple hx;have hlen:=r.length;exact truthy_tuple pl (by simp only[OH];omega) {H,I.tok _,by rw[pY r];exact q}
   ·subst e';obtain⟨hz,hS,vs,r,m⟩:kvs.length<=sizeLine/\(p==sysModules)=false/\∃vs,KV kvs vs/\s.heap.DictOf (lD X.prog X.w) p vs:=I.hok p _ hx;have hlen:kvs.length=vs.length:=Paired.length r;exact wpAny_truthy_dict hS m `a {H,I.tok _,by rw[yf r];exact q}
 |_=>exact(show False from e).elim
def B5 (ha:PE X a ta)(he:∀whole,isTrue a X.env whole=(do let v <- whole;standAt a.pos;holding [v] (truthy v))) :
 PT X a (λσ H Q=>ta σ H λx H'=>∃k,Dg X.K x H' k/\Q k H'):=by
 intro pins s σ H Q I h;exact isTrue_plain (a9 (ha pins s σ H _ I h) λv s1 ⟨x,H1,I1,r1,q1⟩=>Hw pins s1 σ H1 x v Q I1 r1 q1) (he _)
def xE:bV X (binaryOp .Add) (λx y H Q=>∃i j,x=.str i/\y=.str j/\i.length+j.length<=sizeLine/\Q (.str (i++j)) H):=by
 intro pins s σ H x y v u Q I rx ry h;obtain⟨i,j,rfl,rfl,hz,q⟩:=h;obtain⟨t,rfl⟩:=rx;obtain⟨t',rfl⟩:=ry;exact add_str (λt' tk=>{.str (i++j),H,I.tok _,{_,rfl},q}) hz
def vals1 {x:V}{us:List Oz}(r:Vals [x] us):∃u,us=[u]/\RelV x u:=by
 cases r with
 |cons r1 r2=>cases r2;exact{_,rfl,r1}
def vals2 {x y:V}{us:List Oz}(r:Vals [x,y] us):∃u w',us=[u,w']/\RelV x u/\RelV y w':=by
 cases r with
 | cons r1 r2 =>
   cases r2 with
   |cons r3 r4=>cases r4;exact{_,_,rfl,r1,r3}
end
structure Dk (h:Heap) (x dx C:Addr) (mA:Str->Option Oz):Prop where
 obj:h.get? x=some (PySem.W.instObj C dx)
 ns:h.Ns1 dx mA
 ne:dx≠x
def sd {h:Heap}{dx:Addr}{mA:Str->Option Oz}(n:h.Ns1 dx mA):∃od,h.get? dx=some od/\∀name,PySem.W.lookIn name od=some (mA name):=by
 obtain⟨o,es,ep,ho,hd,hk,_,hm⟩:=n;refine{o,ho,λname=>?_};have e:=hm name;unfold nsFind findBy at e;rw[<- Array.find?_toList] at e;unfold PySem.W.lookIn;rw[hd];dsimp only;split
 ·rename_i y q;rw[q] at e;exact congrArg some e
 ·rename_i q;rw[q] at e;have a:es.toList.any (·.refKey)=false:=by
   rw[List.any_eq_false];intro y hy;obtain⟨z,t,hkey⟩:=hk y (Array.mem_toList_iff.mp hy);simp[DictEntry.refKey,hkey]
  have a':¬ es.toList.any (·.refKey)=true:=by rw[a];exact Pc
  rw[if_neg a'];exact congrArg some e
def Dk.look {h:Heap}{x dx C:Addr}{mA:Str->Option Oz}(I:Dk h x dx C mA):∃od,Qi h x (PySem.W.instObj C dx) C (some od)/\∀name,PySem.W.lookIn name od=some (mA name):=
 let⟨od,ho,hl⟩:=sd I.ns
 {od,⟨I.obj,rfl,rfl,ho⟩,hl}
def rA.some_of {v:V}{o:Option Oz}(r:rA (some v) o):∃u,o=some u/\RelV v u:=by
 cases o with
 |none=>exact(show False from r).elim
 |some u=>exact⟨u,rfl,r⟩
section
variable{P:OX}{w:O6}{H H':Hp}{h h':Heap}{a C dx:Addr}{fs fs':List (Str×V)}
def Gm (hok:fb P w H h)(e:H a=some (.ins C dx fs)):∃mA,Dk h a dx C mA/\(∀f,rA (fs.lookup f) (mA f))/\PySem.Within mA (fs.map (·.1))/\fs.length<=1000/\H dx=some (.own a):=by
 obtain⟨d,z,ne,ob,mA,n,r,q⟩:=(show dg P w H h a (.ins C dx fs) from hok a _ e);exact{mA,⟨ob,n,ne⟩,r,q,z,d}
end
structure Kx (K:OA) (C:Addr):Prop where
 pg:PySem.W.plainGet K C Str.empty=true
 hd:PySem.W.hasDictIn K C=true
 po:PySem.W.plainOver K C=true
 sa:PySem.W.findIn K (.ref C) "__setattr__"=some (some (.builtin "object.__setattr__"))
def Kx.get {K:OA}{C:Addr}(c:Kx K C)(f:Str):PySem.W.plainGet K C f=true:=c.pg
section
variable{X:Cx}{pins:List (Addr×Obj)}{σ:St}{H:Hp}{s:OD}{a C dx:Addr}{fs:List (Str×V)}{f:Str}{v:V}{A:Pu}{E:Oz->OD->Prop}
def G3 {prog:OX}{w:O6}{env:Env}{e:Expr}{f:Str}{pos:Pos}{s:OD}{Q:Oz->OD->Prop}(hb:attributeBase e f env (eval e env)=eval e env)
 (h:wpAny (model prog w) A (eval e env) (λo s₁=>wpAny (model prog w) A (getAttr o f true) Q E s₁) E s):wpAny (model prog w) A (eval (.Attribute e f pos) env) Q E s:=
 Attribute_any_ h (by rw[arm_eval_Attribute,hb])
end
section
variable{X:Cx}{pins:List (Addr×Obj)}{σ:St}{H:Hp}{s:OD}{A:Pu}{E:Oz->OD->Prop}{Q:Oz->OD->Prop}{c:Oz}{b:Bool}
inductive jF (K:OA) (H:Hp):V->Oz->Prop where
 |non:jF K H .non (.type "NoneType")
 |bl (x:Bool):jF K H (.bl x) (.type "bool")
 |int (i:Int):jF K H (.int i) (.type "int")
 |str (x:Str):jF K H (.str x) (.type "str")
 |flt (x:UInt64):jF K H (.flt x) (.type "float")
 |lst {a:Addr}{xs:List V} (e:H a=some (.lst xs)):jF K H (.ref a) (.type "list")
 |frz {a:Addr}{o:Obj}{xs:List V} (e:H a=some (.frz o (.lst xs))):jF K H (.ref a) (.type "list")
 |tup {a:Addr}{xs:List V} (e:H a=some (.tup xs)):jF K H (.ref a) (.type "tuple")
 |dK {a:Addr}{kvs:List (Key×V)} (e:H a=some (.dK kvs)):jF K H (.ref a) (.type "dict")
 |dT {a:Addr}{kvs:List (List Key×V)} (e:H a=some (.dT kvs)):jF K H (.ref a) (.type "dict")
 |ins {a C dx:Addr}{fs:List (Str×V)} (e:H a=some (.ins C dx fs)) (cl:Kx K C) (ha:PySem.W.findIn K (.ref C) "__class__"=some (some (.builtin "object.__class__")))
  (hn:PySem.W.specialIn K (.builtin "object.__class__") "__get__"=some (some (.builtin "getset_descriptor.__get__"))) (htk:PySem.W.takesIn K (.builtin "object.__class__")=some true)
  (hm:PySem.W.mroIn K C (.type "object")=some true):jF K H (.ref a) (.ref C)
def kK {x:V}{u t:Oz}(I:Inv X pins σ H s)(rx:RelV x u)(ty:jF X.K H x t)(e:PySem.W.kitOne X.K t c=some b)(h:∀tk,Q (.bool b) {s with toks:=tk}) :
 wpAny (model X.prog X.w) A (call (.builtin "isinstance") [u,c]) Q E s:=by
 cases ty with
 |non=>cases (show u=Value.none from rx);exact PC PySem.W.kitx_none I.kIn True.intro e (λz=>nomatch z) h
 |bl y=>cases (show u=Value.bool y from rx);exact PC PySem.W.kitx_bool I.kIn True.intro e (λz=>nomatch z) h
 |int i=>obtain⟨t,q⟩:=(show ∃t,u=Value.int i t from rx);cases q;exact PC PySem.W.kitx_int I.kIn True.intro e (λz=>nomatch z) h
 |str y=>obtain⟨t,q⟩:=(show ∃t,u=Value.str y t from rx);cases q;exact PC PySem.W.kitx_str I.kIn True.intro e (λz=>nomatch z) h
 |flt y=>obtain⟨t,q⟩:=(show ∃t,u=Value.float y t from rx);cases q;exact PC PySem.W.kitx_float I.kIn True.intro e (λz=>nomatch z) h
 | @lst a xs ea =>
   cases (show u=Value.ref a from rx);obtain⟨_,_,n,_,h1⟩:=(show dg X.prog X.w H s.heap a (.lst xs) from I.hok a _ ea);exact PC PySem.W.kitx_list I.kIn {_,h1,rfl} e (λz=>nomatch z) h
 | @frz a ob xs ea =>
   cases (show u=Value.ref a from rx);obtain⟨_,_,_,n,_,h1⟩:=(show dg X.prog X.w H s.heap a (.frz ob (.lst xs)) from I.hok a _ ea);exact PC PySem.W.kitx_list I.kIn {_,h1,rfl} e (λz=>nomatch z) h
 | @tup a xs ea =>
   cases (show u=Value.ref a from rx);obtain⟨_,_,_,p⟩:=(show dg X.prog X.w H s.heap a (.tup xs) from I.hok a _ ea);obtain⟨o,h1,h2,_⟩:=p;exact PC PySem.W.kitx_tuple I.kIn ⟨o,h1,h2⟩ e (λz=>nomatch z) h
 | @dK a kvs ea =>
   cases (show u=Value.ref a from rx);obtain⟨_,_,vs,_,p⟩:=(show dg X.prog X.w H s.heap a (.dK kvs) from I.hok a _ ea);obtain⟨o,es,ep,h1,h2,_⟩:=p;exact PC PySem.W.kitx_dict I.kIn ⟨o,h1,h2.1⟩ e (λz=>nomatch z) h
 | @dT a kvs ea =>
   cases (show u=Value.ref a from rx);obtain⟨_,_,xs,_,o,es,ep,h1,h2,_⟩:=(show dg X.prog X.w H s.heap a (.dT kvs) from I.hok a _ ea);exact PC PySem.W.kitx_dict I.kIn ⟨o,h1,h2.1⟩ e (λz=>nomatch z) h
 | @ins a C dx fs ea cl ha hn htk hm =>
   cases (show u=Value.ref a from rx);obtain⟨mA,O,_⟩:=Gm I.hok ea;obtain⟨od,J,_⟩:=O.look;exact PC (PySem.W.kitx_own (cl.get _) cl.hd ha hn htk hm) I.kIn J e (λz=>nomatch z) h
end
structure cv (k:Nat) (A:Pu):Prop where
 hd:A.handled=none
 dp:A.depth+3*k+5<recursionLimit
 un:A.units+16*k+200<cLine
 gd:A.guards=some []
def cv.mono {j k:Nat}{A:Pu}(r:cv k A)(h:j<=k):cv j A:={r.hd,by have:=r.dp;omega,by have:=r.un;omega,r.gd}
def cv.deeper {k:Nat}{A:Pu}(r:cv (k+1) A)(env:Env):cv k (A.deeper env):=
 {r.hd,by have:=r.dp;show A.depth+1+3*k+5<_;omega,by have:=r.un;show A.units+3+16*k+200<_;omega,r.gd}
def xT {A:Pu}{C:Addr}{us:List Oz}{kw:List (Str×Oz)}:(A.under (.builtin "type.__call__" {.ref C::us,kw})).depth=A.depth+1:=by
 first|rfl|simp[Around.under,Code.weight,Code.isCreation,Code.isGuard,Code.isCaller,Code.frames,Code.isFrame,guardIds]
def xS {A:Pu}{C:Addr}{us:List Oz}{kw:List (Str×Oz)}:(A.under (.builtin "type.__call__" {.ref C::us,kw})).units=A.units+1:=by
 first|rfl|simp[Around.under,Code.cUnits,Code.frames,Code.isFrame]
def cv.make {k:Nat}{A:Pu}(r:cv (k+1) A)(C:Addr)(us:List Oz)(kw:List (Str×Oz)):cv k (A.under (.builtin "type.__call__" {.ref C::us,kw})):=
 {r.hd,by have:=r.dp;rw[xT];omega,by have:=r.un;rw[xS];omega,r.gd}
def cv.depth {k:Nat}{A:Pu}(r:cv k A):A.depth<recursionLimit:=by have:=r.dp;omega
def cv.units {k:Nat}{A:Pu}(r:cv k A):A.units+64<cLine:=by have:=r.un;omega
def Nb:TA:=λ_ H Q=>Q [] H
noncomputable def KP (ta:TE)(tr:TA):TA:=λσ H Q=>ta σ H λx H1=>tr σ H1 λxs H2=>Q (x::xs) H2
section
variable{X:Cx}{e:Expr}{es:List Expr}{te:TE}{t:TA}{pos:Pos}
def eB:PA X [] Nb:=λ_ _ _ _ H Q I h=>Calls.spliced_nil {[],H,I,.nil,h}
def bX (ha:PE X e te)(hr:PA X es t)(hs:starEach (e::es) X.env=(false,eval e X.env)::starEach es X.env:=by rfl):PA X (e::es) (KP te t):=by
 intro pos pins s σ H Q I h;rw[hs];show wpAny _ _ (spliced ((false,eval e X.env)::backTo pos (starEach es X.env))) _ _ s;refine Calls.spliced_cons (a9 (ha pins s σ H _ I h) λu s1 ⟨x,H1,I1,r1,q1⟩=>?_);exact a9 (hr pos pins s1 σ H1 _ I1 q1) λus s2 ⟨xs,H2,I2,r2,q2⟩=>{x::xs,H2,I2,.cons r1 r2,q2}
noncomputable def MX (t:TA):TE:=λσ H Q=>t σ H λxs H1=>xs.length<=sizeLine/\∀p,H1 p=none->Q (.ref p) (upd H1 p (.tup xs))
noncomputable def Nc (t:TA):TE:=λσ H Q=>t σ H λxs H1=>xs.length<=sizeLine/\∀p,H1 p=none->Q (.ref p) (upd H1 p (.lst xs))
def IE {x1}(h:PA X es t):PE X (.Tuple es x1 pos) (MX t):=by
 intro pins s σ H Q I hq;refine wpAny_Tuple_spliced (a9 (h pos pins s σ H _ I hq) λus s1 ⟨xs,H1,I1,r,z,q⟩=>{by rw[<- r.length];exact z,?_})
 have hf:H1 s1.heap.objs.size=none:=I1.hok.fresh (OF _);refine{.ref s1.heap.objs.size,upd H1 s1.heap.objs.size (.tup xs),I1.laid (t':=s1.toks) (λb u e=>OE _ e) (OF _) ?_,rfl,q _ hf};exact{z,us,r,{_,OZ _ rfl,rfl,_,rfl}}
def IL (h:PA X es t):PE X (.List es pos) (Nc t):=by
 intro pins s σ H Q I hq;refine wpAny_List_spliced (a9 (h pos pins s σ H _ I hq) λus s1 ⟨xs,H1,I1,r,z,q⟩=>{by rw[<- r.length];exact z,?_})
 have hf:H1 s1.heap.objs.size=none:=I1.hok.fresh (OF _);refine{.ref s1.heap.objs.size,upd H1 s1.heap.objs.size (.lst xs),I1.laid (t':=s1.toks) (λb u e=>OE _ e) (OF _) ?_,rfl,q _ hf};exact{z,us,0,r,OZ _ rfl}
end
abbrev Sp:=List V->Hp->VK->XK->Prop
abbrev oj:=List Env->Hp->OD->XK->Oz->OD->Prop
structure pf (P:OX) (w:O6) (K:OA) (mg:Str->Option Oz) (base:Heap) (A:Pu) (outer:List Env) (s:OD) (H:Hp):Prop where
 frames:A.frames=some outer
 mod:Mod K mg base
 bs:∀b o,base.get? b=some o->s.heap.get? b=some o/\H b=none
 bsz:base.objs.size<=s.heap.objs.size
 funs:s.heap.FunFrames base outer
 frf:∀b∈gi outer,H b=none
 hok:fb P w H s.heap
 bare:AllBare s.gens
noncomputable def CE (outer:List Env)(P:OX)(w:O6)(H:Hp)(s:OD)(Q:VK)(u:Oz)(s':OD):Prop:=
 ∃v H',s'.os=s.os/\AllBare s'.gens/\Un (gi outer) [] H H' s.heap s'.heap/\fb P w H' s'.heap/\RelV v u/\Q v H'
noncomputable def CR (CX:oj)(outer:List Env)(P:OX)(w:O6)(H:Hp)(s:OD)(Q:VK)(E:XK)(r:Result)(s':OD):Prop:=
 match r with
 |.ok (.ret u)=>CE outer P w H s Q u s'
 |.ok _=>False
 |.error e=>CX outer H s E e s'
structure lp (P:OX) (w:O6) (K:OA) (mg:Str->Option Oz) (base:Heap) (CX:oj) (k:Nat) (f:Addr) (fd:QH) (ps:List Str) (sp:Sp):Prop where
 len:∀vs H Q E,sp vs H Q E->vs.length=ps.length
 run:∀(A:Pu) (outer:List Env) (s:OD) (H:Hp) (args:Args) (us:List Oz) (vs:List V) (Q:VK) (E:XK),cv k A->pf P w K mg base A outer s H->BindsTo s fd args (ps.zip us)->Vals vs us->sp vs H Q E->
  codeAny (model P w) A (.call (.ref f) args) (CR CX outer P w H s Q E) s
def pf.make {P:OX}{w:O6}{K:OA}{mg:Str->Option Oz}{base:Heap}{A:Pu}{outer:List Env}{s:OD}{H:Hp}(e:pf P w K mg base A outer s H)(C:Addr)(us:List Oz)(kw:List (Str×Oz)) :
 pf P w K mg base (A.under (.builtin "type.__call__" {.ref C::us,kw})) outer s H:={by first|exact e.frames|(simpa[Around.under,Code.envs,Code.isFrame,pushEnvs] using e.frames),e.mod,e.bs,e.bsz,e.funs,e.frf,e.hok,e.bare}
section
variable{X:Cx}{pins:List (Addr×Obj)}{σ:St}{H:Hp}{s s':OD}
def Inv.env0 (I:Inv X pins σ H s):pf X.prog X.w X.K X.mg X.base X.A X.stack s H:=
 {I.ok.frames,I.ok.mod,I.bs,OI I.ok.bsz I.sz,I.stack,I.stkFree,I.hok,I.bare}
def Inv.after {Q:VK}{u:Oz}(I:Inv X pins σ H s)(h:CE X.stack X.prog X.w H s Q u s'):EP X pins σ Q u s':=by
 obtain⟨v,H',os,bare,un,hok,r,q⟩:=h;obtain⟨hh,g,d,t,os'⟩:=s';obtain rfl:os'=s.os:=os;exact{v,H',I.call (h':=hh) (g':=g) (d':=d) (t':=t) (ch:=[]) un hok bare (λb z=>absurd z `s),r,q}
end
noncomputable def DM (sp:Sp)(dvs:List V)(E:XK)(t:TA):TE:=λσ H Q=>t σ H λvs H1=>sp (vs++dvs) H1 Q E
noncomputable def Binds (K:OA)(fd:QH)(ps:List Str)(ds:List Oz):Prop:=
 ∀(s:OD) (us:List Oz),K.In s.heap->(us++ds).length=ps.length->BindsTo s fd {us,[]} (ps.zip (us++ds))
def Binds.all {K:OA}{fd:QH}{ps:List Str}(h:∀us:List Oz,us.length=ps.length->bindArgs fd {us,[]}=pure (ps.zip us)):Binds K fd ps []:=λs us _ hl=>by
 rw[List.append_nil] at hl ⊢;exact .of_eq (h us hl)
noncomputable def Passes (CX:oj)(X:Cx)(E:XK):Prop:=∀(pins:List (Addr×Obj)) (σ:St) (H:Hp) (s:OD) (e:Oz) (s':OD),Inv X pins σ H s->CX X.stack H s E e s'->X.xe e s'
section
variable{X:Cx}{CX:oj}{k:Nat}{f C:Addr}{fd:QH}{ps:List Str}{sp:Sp}{dvs:List V}{ds:List Oz}{E:XK}{x m:Str}{p pos apos:Pos}{e o:Expr}{es:List Expr}{ta:TE}{t:TA}
def zG {pins:List (Addr×Obj)}{σ:St}{H:Hp}{s:OD}{Q:VK}{us:List Oz}{vs:List V}(F:lp X.prog X.w X.K X.mg X.base CX k f fd ps sp)(hr:cv k X.A)(hb:Binds X.K fd ps ds)(hd:Vals dvs ds)(hx:Passes CX X E)
 (I:Inv X pins σ H s) (r:Vals vs us) (h:sp (vs++dvs) H Q E):wpAny (model X.prog X.w) X.A (call (.ref f) us) (EP X pins σ Q) X.xe s:=by
 have r2:Vals (vs++dvs) (us++ds):=r.append hd;have hl:(us++ds).length=ps.length:=by rw[<- r2.length];exact F.len _ _ _ _ h
 refine wpAny_call (codeAny_mono (F.run X.A X.stack s H {us,[]} (us++ds) (vs++dvs) Q E hr I.env0 (hb s us I.kIn hl) r2 h) λr s' hq=>?_);cases r with
 |error e=>exact hx pins σ H s e s' I hq
 | ok fl =>
   cases fl with
   |ret u=>exact I.after hq
   |next=>exact False.elim hq
   |brk=>exact False.elim hq
   |cont=>exact False.elim hq
def FY (F:lp X.prog X.w X.K X.mg X.base CX k f fd ps sp)(hr:cv k X.A)(hg:Gl X x)(hm:X.mg x=some (.ref f))(hk:PySem.W.keepIn X.K (.ref f)=true)(hb:Binds X.K fd ps ds)(hd:Vals dvs ds)(hx:Passes CX X E)
 (ha:PA X (e::es) t) (hdb:(x==("__debug__":Str))=false:=by decide) (he:starEach (e::es) X.env=(false,eval e X.env)::starEach es X.env:=by rfl) (hpl:(backTo pos (starEach es X.env)).any (·.1)=false:=by rfl) :
 PE X (.Call (.Name x p) (e::es) [] pos) (DM sp dvs E t):=by
 intro pins s σ H Q I h;refine wpAny_Call_Name_kw (gv I hg hm ?_ hdb);refine PySem.W.callWith_K (h₀:=X.base) I.ok.mod.kin hk (a9 (ha pos pins s σ H _ I h) λus s1 ⟨vs,H1,I1,r,q⟩=>{I1.kIn,?_}) he hpl;exact zG F hr hb hd hx I1 r q
end
structure ia (N P:List Str) (sc:Scope):Prop where
 kind:sc.kind=.function
 co:sc.isCoroutine=false
 gen:sc.isGenerator=false
 nd:N.Nodup
 pre:N.take P.length=P
 par:∀x∈P,sc.names.lookup x=some .local\/sc.names.lookup x=some .cell
 nofree:∀y∈sc.names,y.2≠.free
def sE {kindOf:Str->Option NameKind}{x:Str}:∀{binds:List (Str×Oz)}{m:Str->Option Oz},(∀v,(x,v)∉binds)->bindL kindOf binds m x=m x
 |[],_,_=>rfl
 | (n, v) :: r, m, h => by
   unfold bindL;rw[sE λw hw=>h w (ON _ hw)];split
   ·have:x≠n:=by rintro rfl;exact h v OT
    simp[this]
   ·rfl
def sG {kindOf:Str->Option NameKind}{x:Str}:∀{binds:List (Str×Oz)}{m:Str->Option Oz},(∀v,(x,v)∉binds)->bindC kindOf binds m x=m x
 |[],_,_=>rfl
 | (n, v) :: r, m, h => by
   unfold bindC;rw[sG λw hw=>h w (ON _ hw)];split
   ·rfl
   ·have:x≠n:=by rintro rfl;exact h v OT
    simp[this]
def sF {kindOf:Str->Option NameKind}{x:Str}{v:Oz}:∀{P:List Str}{vs:List Oz}{i:Nat}{m:Str->Option Oz},P.Nodup->P[i]?=some x->vs[i]?=some v->kindOf x=some .local->
 bindL kindOf (P.zip vs) m x=some v
 |[],_,_,_,_,h,_,_=>by simp at h
 |_::_,[],_,_,_,_,h,_=>by simp at h
 | p :: P, w :: vs, 0, m, nd, h1, h2, hk => by
   simp at h1 h2;subst h1;subst h2;show bindL kindOf ((p,w)::P.zip vs) m p=_;unfold bindL;rw[sE λv hv=>(List.nodup_cons.mp nd).1 (List.of_mem_zip hv).1,if_pos hk];simp
 | p :: P, w :: vs, i + 1, m, nd, h1, h2, hk => by
   show bindL kindOf ((p,w)::P.zip vs) m x=_;unfold bindL;exact sF (i:=i) (List.nodup_cons.mp nd).2 (by simpa using h1) (by simpa using h2) hk
def sH {kindOf:Str->Option NameKind}{x:Str}{v:Oz}:∀{P:List Str}{vs:List Oz}{i:Nat}{m:Str->Option Oz},P.Nodup->P[i]?=some x->vs[i]?=some v->kindOf x≠some .local->
 bindC kindOf (P.zip vs) m x=some v
 |[],_,_,_,_,h,_,_=>by simp at h
 |_::_,[],_,_,_,_,h,_=>by simp at h
 | p :: P, w :: vs, 0, m, nd, h1, h2, hk => by
   simp at h1 h2;subst h1;subst h2;show bindC kindOf ((p,w)::P.zip vs) m p=_;unfold bindC;rw[sG λv hv=>(List.nodup_cons.mp nd).1 (List.of_mem_zip hv).1,if_neg hk];simp
 | p :: P, w :: vs, i + 1, m, nd, h1, h2, hk => by
   show bindC kindOf ((p,w)::P.zip vs) m x=_;unfold bindC;exact sH (i:=i) (List.nodup_cons.mp nd).2 (by simpa using h1) (by simpa using h2) hk
noncomputable def start (N:List Str)(vs:List V):St:=vs.map some++List.replicate (N.length-vs.length) none
noncomputable def fL (CX:oj)(P:OX)(w:O6)(K:OA)(mg:Str->Option Oz)(base:Heap)(N:List Str)(qual:Str)(scope:Scope)(f:Addr)(cd:Oz)(A:Pu)(outer:List Env)(s:OD)(H:Hp)(E:XK):Cx where
 prog:=P
 w:=w
 K:=K
 mg:=mg
 base:=base
 A:=A.deeper (envOfC qual scope s.heap.objs.size f cd)
 N:=N
 s₀:=s
 H₀:=H
 env:=envOfC qual scope s.heap.objs.size f cd
 outer:=outer
 stack:=envOfC qual scope s.heap.objs.size f cd::outer
 ex:=[]
 calm:=true
 fn:=λ_=>true
 pn:=[]
 xe:=λe s'=>wpAny (model P w) (A.deeper (envOfC qual scope s.heap.objs.size f cd)) (leaving (envOfC qual scope s.heap.objs.size f cd) e) (λ_ s''=>CX outer H s E e s'') (λe' s''=>CX outer H s E e' s'') s'
def vg {sc:Scope}{n:Nat}{x:Str}(h:sc.names.lookup x=some .cell):∃c,(cellsFrom n sc.names []).lookup x=some c:=by
 have q:=PySem.W.cellsFrom_some sc.names n [] (.inl h);exact Option.isSome_iff_exists.mp q
def Ax {CX:oj}{P:OX}{w:O6}{K:OA}{mg:Str->Option Oz}{base:Heap}{N ps:List Str}{qual:Str}{scope:Scope}{f:Addr}{cd:Oz}{A:Pu}{outer:List Env}{s s1:OD}{H:Hp}{E:XK}{us:List Oz}{vs:List V}
 (S:ia N ps scope) (hd:A.handled=none) (e0:pf P w K mg base A outer s H) (hl:vs.length=ps.length) (r:Vals vs us)
 (x:InCallC s s.heap.objs.size (bindL (envOfC qual scope s.heap.objs.size f cd).kindOf (ps.zip us) λ_=>none) (cellsFrom (s.heap.objs.size+1) scope.names []) (bindC (envOfC qual scope s.heap.objs.size f cd).kindOf (ps.zip us) λ_=>none) s1) :
 Inv (fL CX P w K mg base N qual scope f cd A outer s H E) [] (start N vs) H s1:=by
 have hpl:ps.length<=N.length:=by have:=congrArg List.length S.pre;rw[PU] at this;omega
 obtain⟨h1,tk,rfl,hk⟩:=x.done;have noA:∀b:Addr,b∉(fL CX P w K mg base N qual scope f cd A outer s H E).ex:=λb z=>absurd (show b∈([]:List Addr) from z) `s
 refine{{e0.mod,S.kind,rfl,rfl,OF _,λy z c h1 h2=>?_,λy hy=>?_,λy c _ h=>?_,λ_=>hd,Around.frames_deeper e0.frames,.inr ⟨rfl,rfl⟩,λb z=>absurd z (noA b),e0.bs,e0.bsz,λb _ _=>noA b,λb z=>absurd z (noA b),e0.funs,e0.frf},
  rfl,e0.bare,Un.kept hk,{_,x.toInCall.ns,λi y v h1 h2 h3=>?_},λy c h=>{_,x.cell y c h},e0.hok.fresh (OF _),λy c h=>?_,λp hp=>absurd (show p∈([]:List (Addr×Obj)) from hp) `s,e0.hok.kept hk,?_}
 ·exact name_of_addr x.apart (QD h1) (QD h2)
 ·have hy:scope.names.lookup y=some .cell\/scope.names.lookup y=some .free:=hy;rcases hy with hy|hy
  ·exact vg hy
  ·exact absurd rfl (S.nofree _ (QD hy))
 ·exact Nat.le_of_lt (x.above y c (QD h))
 ·have hi:i<vs.length:=by
   unfold start at h2;by_cases hi:i<vs.length
   ·exact hi
   ·rw[PN (by simpa using hi)] at h2
    rw[Qr] at h2;split at h2<;>cases h2
  have ha:vs[i]?=some v:=by
   unfold start at h2;rw[Pd (by simpa using hi),Ph] at h2
   cases e:vs[i]? with
   |none=>rw[e] at h2;cases h2
   |some a=>rw[e] at h2;cases h2;rfl
  obtain⟨u,hu,rv⟩:=r.get ha;have hp:ps[i]?=some y:=by
   rw[<- S.pre,List.getElem?_take_of_lt `a];exact h1
  have ndP:ps.Nodup:=by rw[<- S.pre];exact S.nd.sublist (List.take_sublist _ _)
  refine{u,rv,?_};rcases S.par y (OV hp) with k|k
  ·exact .inl {k,sF ndP hp hu k}
  ·obtain⟨c,e⟩:=vg (n:=s.heap.objs.size+1) k;refine .inr {.inl k,c,e,?_};have q:=x.cell y c e;rw[sH ndP hp hu (by show scope.names.lookup y≠_;rw[k];decide)] at q
   exact q
 ·exact e0.hok.fresh (Nat.le_of_lt (x.above y c (QD h)))
 ·unfold start;show _=N.length;rw[Pz,OM,List.length_replicate];omega
def Ly {CX:oj}{P:OX}{w:O6}{K:OA}{mg:Str->Option Oz}{base:Heap}{k:Nat}{f:Addr}{name qual:Str}{params:Arguments}{body:List Stmt}{scope:Scope}{dV kV doc pm cdv ct oc:Oz}{an od:Option Addr}
 {osl:Array (Option Oz)}{N ps:List Str}{sp:Sp} (lk:K.lookup f=some {oc,od,.func (PySem.W.fnOf name qual params body scope dV kV doc pm an cdv ct),osl}) (hcd:PySem.W.codeIn K cdv qual=true) (S:ia N ps scope)
 (len:∀vs H Q E,sp vs H Q E->vs.length=ps.length)
 (hbody:∀(A:Pu) (outer:List Env) (s:OD) (H:Hp) (vs:List V) (Q:VK) (E:XK),cv k (A.deeper (envOfC qual scope s.heap.objs.size f cdv))->sp vs H Q E->
  ∃t,nh (fL CX P w K mg base N qual scope f cdv A outer s H E) body t/\t {nx:=λ_ H'=>Q .non H',rt:=Q} (start N vs) H) :
 lp P w K mg base CX (k+1) f (PySem.W.fnOf name qual params body scope dV kV doc pm an cdv ct) ps sp:=by
 refine{len,λA outer s H args us vs Q E hr e0 hb r hsp=>?_};have hl:=len _ _ _ _ hsp;have KX:K.In s.heap:=e0.mod.kin.keeps λb o e=>(e0.bs b o e).1;have lim:s.heap.NoLimit:=e0.mod.nolimit.keeps λb o e=>(e0.bs b o e).1;have hkind:∀y∈ps.zip us,scope.names.lookup y.1=some .local\/(scope.names.lookup y.1=some .cell/\((cellsFrom (s.heap.objs.size+1) scope.names []).lookup y.1).isSome=true):=λ⟨n,v⟩ hy=>by
  rcases S.par n (List.of_mem_zip hy).1 with q|q
  ·exact .inl q
  ·exact .inr {q,PySem.W.cellsFrom_some _ _ _ (.inl q)}
 refine codeAny_call_function hr.depth (KX _ _ lk) rfl S.co S.gen rfl (PySem.W.codeRec_of KX hcd) (hb _ _ _ _ ?_);refine wpAny_newFunctionEnv_cells S.kind hkind λenv he s1 x=>?_;subst he;refine{lim.keeps x.toInCall.keep,codeAny_func ?_};obtain⟨t,ht,hq⟩:=hbody A outer s H vs Q E (hr.deeper _) hsp;have I:Inv (fL CX P w K mg base N qual scope f cdv A outer s H E) [] (start N vs) H s1:=Ax S hr.hd e0 hl r x;refine wpAny_mono (ht [] s1 (start N vs) H _ I hq) (λfl s' hs=>?_) λe s' hs=>hs;have fin:∀{σ':St}{H':Hp}{v:V}{u:Oz},Inv (fL CX P w K mg base N qual scope f cdv A outer s H E) [] σ' H' s'->RelV v u->Q v H'->CE outer P w H s Q u s':=
  λ{σ' H' v u} J rv q=>⟨v,H',J.os,J.bare,J.base,J.hok,rv,q⟩
 cases fl with
 | ret u =>
   obtain⟨v,σ',H',J,rv,q⟩:=hs;exact fin J rv q
 | next =>
   obtain⟨σ',H',J,q⟩:=hs;exact fin (v:=V.non) (u:=Value.none) J rfl q
 | brk =>
   obtain⟨_,_,_,q⟩:=hs;exact False.elim q
 | cont =>
   obtain⟨_,_,_,q⟩:=hs;exact False.elim q
section
variable{X:Cx}{x:Str}{p pos:Pos}{e:Expr}{es:List Expr}{t:TA}{id T:String}{r:List V->Hp->VK->Prop}
noncomputable def Mo (r:List V->Hp->VK->Prop)(t:TA):TE:=λσ H Q=>t σ H λvs H1=>r vs H1 Q
def iT (hc:di X (.builtin id) r)(hg:Gl X x)(hm:X.mg x=none)(hv:bootBuiltins x=some (.builtin id))(ha:PA X (e::es) t)(hn:x≠"__name__":=by decide)(hdb:(x==("__debug__":Str))=false:=by decide)
 (he:starEach (e::es) X.env=(false,eval e X.env)::starEach es X.env:=by rfl) (hpl:(backTo pos (starEach es X.env)).any (·.1)=false:=by rfl):PE X (.Call (.Name x p) (e::es) [] pos) (Mo r t):=by
 intro pins s σ H Q I h;refine wpAny_Call_Name_kw (iw I hg hm hv ?_ hn hdb);exact PyProof.Rows.callWith_builtin1 (a9 (ha pos pins s σ H _ I h) λus s1 ⟨vs,H1,I1,r1,q1⟩=>hc pins s1 σ H1 vs us Q I1 r1 q1) he hpl
def zS (hc:di X (.type T) r)(hg:Gl X x)(hm:X.mg x=none)(hv:bootBuiltins x=some (.type T))(ha:PA X (e::es) t)(hn:x≠"__name__":=by decide)(hdb:(x==("__debug__":Str))=false:=by decide)
 (he:starEach (e::es) X.env=(false,eval e X.env)::starEach es X.env:=by rfl) (hpl:(backTo pos (starEach es X.env)).any (·.1)=false:=by rfl):PE X (.Call (.Name x p) (e::es) [] pos) (Mo r t):=by
 intro pins s σ H Q I h;refine wpAny_Call_Name_kw (iw I hg hm hv ?_ hn hdb);exact PM (a9 (ha pos pins s σ H _ I h) λus s1 ⟨vs,H1,I1,r1,q1⟩=>hc pins s1 σ H1 vs us Q I1 r1 q1) he hpl
end
end L2
namespace HT
open PySem PyProof.Rows
section
variable{prog:OX}{w:O6}{A:Pu}{E:Oz->OD->Prop}{s:OD}
def GZ {t b:Addr}{vs ws:List Oz}{Q:Oz->OD->Prop}(ht:IsTup s.heap t vs.toArray)(hb:IsTup s.heap b ws.toArray)(hv:vs≠[])
 (h1:ws=[]->Q (.ref t) s) (h2:ws≠[]->Q (.ref s.heap.objs.size) {s with heap:=s.heap.push {cls:=.type "tuple",data:=.seq (vs++ws).toArray}})
 (hsz:vs.length+ws.length<=sizeLine):wpAny (model prog w) A (binaryOp .Add (.ref t) (.ref b)) Q E s:=by
 obtain⟨⟨cls,dd,data,sl⟩,ho,hc,n,hd⟩:=id ht;obtain⟨⟨cls2,dd2,data2,sl2⟩,ho2,hc2,n2,hd2⟩:=id hb;simp only at hc hd hc2 hd2;subst hc hd hc2 hd2;have e:vs.toArray++ws.toArray=(vs++ws).toArray:=`s
 by_cases hw:ws=[]
 ·exact concat_meets {_,ho,rfl} {_,ho2,rfl} noFill_tuple_add seq_tuple_add PySem.F.slot_tuple_add PySem.F.entry_tuple_add (PySem.F.args_tuple_add_2 _ _)
   (tuple_addW1 t b vs.toArray ws.toArray n n2 dd dd2 sl sl2 (by simpa using hv) (by simp[hw])) {ho,ho2,h1 hw}
 ·refine concat_meets {_,ho,rfl} {_,ho2,rfl} noFill_tuple_add seq_tuple_add PySem.F.slot_tuple_add PySem.F.entry_tuple_add (PySem.F.args_tuple_add_2 _ _)
   (tuple_addW2 t b vs.toArray ws.toArray n n2 dd dd2 sl sl2 (by simpa using hv) (by simpa using hw) (by rw[OH,OH];exact hsz)) {ho,ho2,?_}
  rw[e];exact h2 hw
noncomputable def aS (n d:Nat):Option Int->Nat
 |none=>d
 |some v=>if v<0 then(v+(n:Int)).toNat else min v.toNat n
def HV (n d:Nat)(hd:d<=n)(o:Option Int):aS n d o<=n:=by
 cases o with
 |none=>exact hd
 | some v =>
   show(if v<0 then(v+(n:Int)).toNat else min v.toNat n)<=n;by_cases hv:v<0
   ·rw[if_pos hv];omega
   ·rw[if_neg hv];exact Nat.min_le_right _ _
def wX (v:Int)(n d:Nat):(if v<0 then max (v+(n:Int)) 0 else min v (n:Int))=((aS n d (some v):Nat):Int):=by
 show(if v<0 then max (v+(n:Int)) 0 else min v (n:Int))=(((if v<0 then(v+(n:Int)).toNat else min v.toNat n):Nat):Int);by_cases hv:v<0
 ·simp only[if_pos hv];omega
 ·simp only[if_neg hv];omega
def yy (lo hi:Option Int)(n:Nat):Builtin.Slice.sliceAdjust lo hi 1 (n:Int)=(((aS n 0 lo:Nat):Int),((aS n n hi:Nat):Int)):=by
 have h1:¬ ((1:Int)<0):=`a
 unfold Builtin.Slice.sliceAdjust;simp only[h1,if_false];refine Prod.ext ?_ ?_
 ·cases lo with
  |none=>rfl
  |some v=>exact wX v n 0
 ·cases hi with
  |none=>rfl
  |some v=>exact wX v n n
def xA (i j:Nat):Builtin.Slice.slicePlaces (i:Int) (j:Int) 1=j-i:=by
 unfold Builtin.Slice.slicePlaces;have h1:(1:Int) > 0:=`a
 simp only[h1,if_true,Int.ediv_one];split<;>omega
def pD {v:Oz}{o:Option Int}{Q:Option Int->OD->Prop}(p:IsPart v o)(h:Q o s):wpAny (model prog w) A (Builtin.Slice.slicePartIndex v) Q E s:=by
 cases p with
 |none=>exact slicePart_none h
 |int i t=>exact slicePart_int h
def j0 {sl:Addr}{vl vu:Oz}{lo hi:Option Int}{n:Nat}{Q:Int×Int×Nat->OD->Prop}(hs:s.heap.IsSliceOf sl vl vu .none)(pl:IsPart vl lo)(pu:IsPart vu hi)
 (h:Q (((aS n 0 lo:Nat):Int),1,aS n n hi-aS n 0 lo) s):wpAny (model prog w) A (Builtin.Slice.sliceApplied (.ref sl) (pure (n:Int))) Q E s:=by
 obtain⟨os,hos,hcs,hds⟩:=id hs;unfold Builtin.Slice.sliceApplied Builtin.Slice.sliceFields;refine tqa (tqa (tqf hos hds (x:=vl) rfl (tqa (tqf hos hds (x:=vu) rfl (tqa (tqf hos hds (x:=.none) rfl (tqb ?_)))))));refine tqa (slicePart_none ?_);show wpAny _ _ (if ((1:Int)==0)=true then _ else _) _ _ s;rw[if_neg `d]
 refine tqa (pD pl (tqa (pD pu (tqa (tqb ?_)))));show wpAny _ _ (match Builtin.Slice.sliceAdjust lo hi 1 (n:Int) with|(lo,hi)=>pure (lo,(1:Int),Builtin.Slice.slicePlaces lo hi 1)) _ _ s
 rw[yy lo hi n];show wpAny _ _ (pure (((aS n 0 lo:Nat):Int),(1:Int),Builtin.Slice.slicePlaces ((aS n 0 lo:Nat):Int) ((aS n n hi:Nat):Int) 1)) _ _ s;rw[xA];exact tqb h
def B9 (xs:Array Oz)(i k:Nat):((List.range k).filterMap λ(m:Nat)=>xs[((i:Int)+(m:Int)*1).toNat]?).toArray=((xs.toList.drop i).take k).toArray:=by
 have e:(λ(m:Nat)=>xs[((i:Int)+(m:Int)*1).toNat]?)=λm=>xs[i+m]?:=by
  funext m
  have:((i:Int)+(m:Int)*1).toNat=i+m:=`a
  rw[this]
 rw[e];have:=pick_run xs i k;rw[List.filterMap_map] at this;have e2:((λx=>xs[x]?)∘λx=>i+x)=λm=>xs[i+m]?:=rfl;rw[e2] at this;rw[this]
def n4 {t sl:Addr}{items:Array Oz}{vl vu:Oz}{lo hi:Option Int}{Q:Oz->OD->Prop}(ht:IsTup s.heap t items)(hs:s.heap.IsSliceOf sl vl vu .none)(pl:IsPart vl lo)(pu:IsPart vu hi)
 (hw:¬ (aS items.size 0 lo=0/\aS items.size items.size hi=items.size))
 (h:Q (.ref s.heap.objs.size) {s with heap:=s.heap.push {cls:=.type "tuple",data:=.seq ((items.toList.drop (aS items.size 0 lo)).take (aS items.size items.size hi-aS items.size 0 lo)).toArray}})
 (hsz:items.size<=sizeLine):wpAny (model prog w) A (getItem (.ref t) (.ref sl)) Q E s:=by
 have htake:sizeOk (.seq ((items.toList.drop (aS items.size 0 lo)).take (aS items.size items.size hi-aS items.size 0 lo)).toArray):=by
  show((items.toList.drop (aS items.size 0 lo)).take (aS items.size items.size hi-aS items.size 0 lo)).toArray.size<=sizeLine;rw[OH,PU,List.length_drop,Qn];omega
 have hj:aS items.size items.size hi<=items.size:=HV _ _ (OF _) hi;obtain⟨os,hos,hcs,hds⟩:=id hs;have hTs:s.TypeIs (.ref sl) "slice":=⟨os,hos,hcs⟩;unfold getItem;try with_reducible refine tqo ?_
 first|refine tqa (tqb ?_)|skip
 refine tqa (wpAny_sequenceKey ht.typeIs `d ?_)
 refine tqa (wpAny_callSpecial?_slot (name:=Str.ofString "__getitem__") ht.typeIs O8
  (wpAny_call_entry O8 ht.typeIs entry_tuple_getitem ?_ (args_tuple_getitem _ _)))
 show wpAny _ _ (Builtin.Tuple.tupleItemsOf (.ref t) >>= _) _ _ s;refine tqa (tupleItemsOf_ ht ?_);refine tqa (wpAny_typeOf hTs ?_);rw[if_pos `d]
 refine tqa (j0 hs pl pu ?_);have hno:¬ ((((aS items.size 0 lo:Nat):Int)==0&&(1:Int)==1&&(aS items.size items.size hi-aS items.size 0 lo)==items.size)=true):=by
  intro q;rw[OB,OB] at q;have q1:((aS items.size 0 lo:Nat):Int)=0:=eq_of_beq q.1.1;have q2:aS items.size items.size hi-aS items.size 0 lo=items.size:=eq_of_beq q.2;exact hw {`a,`a}
 show wpAny _ _ (if (((aS items.size 0 lo:Nat):Int)==0&&(1:Int)==1&&(aS items.size items.size hi-aS items.size 0 lo)==items.size)=true then _ else _) _ _ s;rw[if_neg hno,B9];first
  |exact tqa (m:=Builtin.Tuple.tupleExact _) (wpAny_newObj_type (tqb {_,rfl,tqb h}) htake)
  |exact tqa (m:=Builtin.Tuple.tupleExact _) (wpAny_newObj_type (tqa (tqb (tqb {_,rfl,tqb h}))) htake)
  |exact tqa (tqa (m:=Builtin.Tuple.tupleExact _) (wpAny_newObj_type (tqb (tqb {_,rfl,tqb h})) htake))
  |exact tqa (tqa (m:=Builtin.Tuple.tupleExact _) (wpAny_newObj_type (tqb {_,rfl,tqb h}) htake))
end
end HT
namespace L2
open PySem PySem.Spec PyProof.Rows
abbrev TO:=St->Hp->(Option Int->Hp->Prop)->Prop
noncomputable def PO (X:Cx)(e:Option Expr)(t:TO):Prop:=
 ∀(pins:List (Addr×Obj)) (s:OD) (σ:St) (H:Hp) (Q:Option Int->Hp->Prop),Inv X pins σ H s->t σ H Q->
  wpAny (model X.prog X.w) X.A (evalPart e X.env) (λu s'=>∃o H',Inv X pins σ H' s'/\IsPart u o/\Q o H') X.xe s
def Fg:TO:=λ_ H Q=>Q none H
noncomputable def KJ (t:TE):TO:=λσ H Q=>t σ H λx H1=>∃i,x=.int i/\Q (some i) H1
section
variable{X:Cx}{e:Expr}{te:TE}{lo hi:Option Expr}{tl th:TO}{pos p2:Pos}
def FU:PO X none Fg:=by
 intro pins s σ H Q I h;rw[evalPart_none];exact tqb {none,H,I,.none,h}
def FT (h:PE X e te):PO X (some e) (KJ te):=by
 intro pins s σ H Q I hw;rw[evalPart_some];refine a9 (h pins s σ H _ I hw) λu s1 ⟨x,H1,I1,r1,q1⟩=>?_;obtain⟨i,rfl,q⟩:=q1;obtain⟨t,rfl⟩:=r1;exact{some i,H1,I1,.int i t,q}
noncomputable def mx (X:Cx)(r:V->Option Int->Option Int->Hp->VK->Prop):Prop:=
 ∀(pins:List (Addr×Obj)) (s:OD) (σ:St) (H:Hp) (x:V) (v vl vu:Oz) (lo hi:Option Int) (sl:Addr) (Q:VK),Inv X pins σ H s->RelV x v->s.heap.IsSliceOf sl vl vu .none->IsPart vl lo->IsPart vu hi->r x lo hi H Q->
  ∃T id,typeLookup (.type T) "__getitem__"=pure (some (.builtin id))/\s.TypeIs v T/\wpAny (model X.prog X.w) X.A (getItem v (.ref sl)) (EP X pins σ Q) X.xe s
def mx.or {r r':V->Option Int->Option Int->Hp->VK->Prop}(h:mx X r)(h':mx X r'):mx X (λx lo hi H Q=>r x lo hi H Q\/r' x lo hi H Q):=by
 intro pins s σ H x v vl vu lo hi sl Q I rx hs pl pu q;rcases q with q|q
 ·exact h pins s σ H x v vl vu lo hi sl Q I rx hs pl pu q
 ·exact h' pins s σ H x v vl vu lo hi sl Q I rx hs pl pu q
noncomputable def tSl (r:V->Option Int->Option Int->Hp->VK->Prop)(te:TE)(tl th:TO):TE:=λσ H Q=>te σ H λx H1=>tl σ H1 λl H2=>th σ H2 λu H3=>r x l u H3 Q
def uu {r:V->Option Int->Option Int->Hp->VK->Prop}(hr:mx X r)(he:PE X e te)(hl:PO X lo tl)(hu:PO X hi th):PE X (.Subscript e (.Slice lo hi none p2) pos) (tSl r te tl th):=by
 intro pins s σ H Q I h;refine Subscript_ (a9 (he pins s σ H _ I h) λv s1 ⟨x,H1,I1,r1,q1⟩=>?_);refine wpAny_Slice (a9 (hl pins s1 σ H1 _ I1 q1) λvl s2 ⟨l,H2,I2,pl,q2⟩=>a9 (hu pins s2 σ H2 _ I2 q2) λvu s3 ⟨u,H3,I3,pu,q3⟩=>?_);rw[evalPart_none];refine tqb ?_;have I4:Inv X pins σ H3 {s3 with heap:=s3.heap.push {cls:=.type "slice",data:=.fields #[vl,vu,.none]}}:=I3.kept (t':=s3.toks) λb ob q=>OE _ q
 obtain⟨T,id,hT,ht,hg⟩:=hr pins {s3 with heap:=s3.heap.push {cls:=.type "slice",data:=.fields #[vl,vu,.none]}} σ H3 x v vl vu l u s3.heap.objs.size Q I4 r1 (Heap.IsSliceOf.new ..) pl pu q3
 show wpAny (model X.prog X.w) X.A (subscriptTail e (.Slice lo hi none p2) v (.ref s3.heap.objs.size)) (EP X pins σ Q) X.xe {s3 with heap:=s3.heap.push {cls:=.type "slice",data:=.fields #[vl,vu,.none]}}
 exact tail_any (ops:=[.ref s3.heap.objs.size,v]) ht hT hg (by with_unfolding_all rfl)
noncomputable def mX (xs:List V)(lo hi:Option Int):List V:=(xs.drop (HT.aS xs.length 0 lo)).take (HT.aS xs.length xs.length hi-HT.aS xs.length 0 lo)
def n8 (xs:List V)(lo hi:Option Int):(mX xs lo hi).length<=xs.length:=by
 unfold mX;rw[PU,List.length_drop];omega
noncomputable def Ig (K:OA):V->Option Int->Option Int->Hp->VK->Prop:=λx lo hi H Q=>∃a xs,x=.ref a/\dQ K H a xs/\
 ¬ (HT.aS xs.length 0 lo=0/\HT.aS xs.length xs.length hi=xs.length)/\∀p,H p=none->Q (.ref p) (upd H p (.tup (mX xs lo hi)))
def HG:mx X (Ig X.K):=by
 intro pins s σ H x v vl vu lo hi sl Q I rx hs pl pu h;obtain⟨a,xs,rfl,hx,hw,q⟩:=h;cases rx;obtain⟨its,r,ht,hz⟩:=I.tuple hx;have hlen:its.toArray.size=xs.length:=by rw[OH];exact r.length.symm
 refine{"tuple",_,O8.lookup,ht.typeIs,?_};refine HT.n4 ht hs pl pu (by rw[hlen];exact hw) ?_ (by rw[hlen];exact hz)
 rw[hlen];refine{.ref s.heap.objs.size,_,I.laid (t':=s.toks) (o:=.tup (mX xs lo hi)) (λb ob q=>OE _ q) (OF _) ?_,rfl,q _ (I.hok.fresh (OF _))};exact{OI (n8 xs lo hi) hz,_,(r.drop (HT.aS xs.length 0 lo)).take (HT.aS xs.length xs.length hi-HT.aS xs.length 0 lo),IsTup.new _ _}
noncomputable def La (K:OA):R2:=λx y H Q=>∃a b xs ys,x=.ref a/\y=.ref b/\dQ K H a xs/\dQ K H b ys/\xs≠[]/\xs.length+ys.length<=sizeLine/\
 (ys=[]->Q (.ref a) H)/\(ys≠[]->∀p,H p=none->Q (.ref p) (upd H p (.tup (xs++ys))))
def Vals.nil_iff {xs:List V}{us:List Oz}(r:Vals xs us):us=[]↔xs=[]:=by
 cases r with
 |nil=>simp
 |cons _ _=>simp
def F3:bV X (binaryOp .Add) (La X.K):=by
 intro pins s σ H x y v u Q I rx ry h;obtain⟨a,b,xs,ys,rfl,rfl,ha,hb,hx,hz,q1,q2⟩:=h;cases rx;cases ry;obtain⟨its,r1,p1,_⟩:=I.tuple ha;obtain⟨its2,r2,p2,_⟩:=I.tuple hb;refine HT.GZ p1 p2 (λz=>hx (r1.nil_iff.mp z)) (λz=>{.ref a,H,I,rfl,q1 (r2.nil_iff.mp z)}) (λz=>?_) (by rw[<- r1.length,<- r2.length];exact hz)
 refine{.ref s.heap.objs.size,_,I.laid (t':=s.toks) (o:=.tup (xs++ys)) (λb ob q=>OE _ q) (OF _) ?_,rfl,q2 (λw=>z (r2.nil_iff.mpr w)) _ (I.hok.fresh (OF _))};exact{by rw[Pz];exact hz,_,r1.append r2,IsTup.new _ _}
end
noncomputable def bw (n:Nat)(i:Int):Option Nat:=if 0<=i then(if i<n then some i.toNat else none) else if -(n:Int)<=i then some (i+n).toNat else none
noncomputable def sJ {α:Type}(xs:List α)(i:Int):Option α:=(bw xs.length i).bind λj=>xs[j]?
def wI {n:Nat}{i:Int}{j:Nat}(h:bw n i=some j):seqIndex? i n=some j/\j<n/\-(n:Int)<=i/\i<n:=by
 unfold bw at h;by_cases h0:0<=i
 ·rw[if_pos h0] at h;by_cases h1:i<n
  ·rw[if_pos h1] at h;have e:i.toNat=j:=OG h;exact{by rw[seqIndex_of h0 h1,e],`a,`a,h1}
  ·rw[if_neg h1] at h;cases h
 ·rw[if_neg h0] at h;by_cases h1:-(n:Int)<=i
  ·rw[if_pos h1] at h;have e:(i+n).toNat=j:=OG h;exact{by rw[seqIndex_neg `a h1,e],`a,h1,`a}
  ·rw[if_neg h1] at h;cases h
def rn {α:Type}{xs:List α}{i:Int}{v:α}(h:sJ xs i=some v):∃j,seqIndex? i xs.length=some j/\xs[j]?=some v/\j<xs.length/\-(xs.length:Int)<=i/\i<xs.length:=by
 unfold sJ at h;cases e:bw xs.length i with
 |none=>rw[e] at h;cases h
 | some j =>
   rw[e] at h;obtain⟨h1,h2,h3,h4⟩:=wI e;exact⟨j,h1,h,h2,h3,h4⟩
noncomputable def lK (b:Expr):Prop:=∀o i,subscripted b false o i=operate [o,i] (getItem o i)
noncomputable def lL (X:Cx)(r:R2):Prop:=
 ∀(value slice:Expr) (pins:List (Addr×Obj)) (s:OD) (σ:St) (H:Hp) (x y:V) (v u:Oz) (Q:VK),Inv X pins σ H s->RelV x v->RelV y u->r x y H Q->
  subscripted slice false v u=operate [v,u] (getItem v u)->wpAny (model X.prog X.w) X.A (subscriptTail value slice v u) (EP X pins σ Q) X.xe s
noncomputable def Ks (X:Cx)(id:String)(r:V->List V->Hp->VK->Prop):Prop:=
 ∀(pins:List (Addr×Obj)) (s:OD) (σ:St) (H:Hp) (x:V) (xs:List V) (v:Oz) (us:List Oz) (Q:VK),Inv X pins σ H s->RelV x v->Vals xs us->r x xs H Q->
  wpAny (model X.prog X.w) X.A (call (.builtin id) (v::us)) (EP X pins σ Q) X.xe s
section
variable{X:Cx}{a b:Expr}{ta tb:TE}{pos:Pos}
def lL.or {r r':R2}(h:lL X r)(h':lL X r'):lL X (λx y H Q=>r x y H Q\/r' x y H Q):=by
 intro value slice pins s σ H x y v u Q I rx ry q hs;rcases q with q|q
 ·exact h value slice pins s σ H x y v u Q I rx ry q hs
 ·exact h' value slice pins s σ H x y v u Q I rx ry q hs
def D3 {r:R2}(hr:lL X r)(ha:PE X a ta)(hb:PE X b tb)(hs:lK b):PE X (.Subscript a b pos) (zi r ta tb):=by
 intro pins s σ H Q I h;exact Subscript_ (Dc ha hb I h λv u s2 x y H2 I2 rx ry q=>hr a b pins s2 σ H2 x y v u Q I2 rx ry q (hs _ _))
noncomputable def Il (K:OA):R2:=λx y H Q=>∃p xs i v,x=.ref p/\y=.int i/\c9 K H p xs/\sJ xs i=some v/\Q v H
noncomputable def Ij (K:OA):R2:=λx y H Q=>∃p xs i v,x=.ref p/\y=.int i/\dQ K H p xs/\sJ xs i=some v/\Q v H
noncomputable def Ik:R2:=λx y H Q=>∃z i c,x=.str z/\y=.int i/\z.length<=sizeLine/\sJ z.cps.toList i=some c/\Q (.str {#[c]}) H
def Gj:lL X (Il X.K):=by
 intro value slice pins s σ H x y v u Q I rx ry h hs;obtain⟨p,xs,i,z,rfl,rfl,hq,he,q⟩:=h;cases rx;obtain⟨t,rfl⟩:=ry;obtain⟨its,r,pl,hz⟩:=I.list hq;obtain⟨j,h1,h2,h3,h4,h5⟩:=rn he;obtain⟨w,ew,rw'⟩:=r.get h2;have hl:=r.length;have hn:=kg;have fin:EP X pins σ Q w s:=⟨z,H,I,rw',q⟩;by_cases h0:0<=i
 ·have hj:i.toNat=j:=by
   rw[seqIndex_of h0 h5] at h1;exact OG h1
  exact item_listR pl.isList h0 `a (by rw[hj];simpa using ew) fin hs
 ·have hj:(i+(its.toArray.size:Int)).toNat=j:=by
   rw[seqIndex_neg `a h4] at h1
   rw[OH,<- hl];exact OG h1
  exact subscriptTail_builtinR (x:=w) pl.isList.typeIs slot_list_getitem.lookup
   (wpAny_getItem_list_neg (Q:=λr s'=>r=w/\EP X pins σ Q r s') pl.isList `a (by rw[OH]<;>omega) `a (by rw[hj];simpa using ew) ⟨rfl,fin⟩) hs
def JD:lL X (Ij X.K):=by
 intro value slice pins s σ H x y v u Q I rx ry h hs;obtain⟨p,xs,i,z,rfl,rfl,hq,he,q⟩:=h;cases rx;obtain⟨t,rfl⟩:=ry;obtain⟨its,r,pl,hz⟩:=I.tuple hq;obtain⟨j,h1,h2,h3,h4,h5⟩:=rn he;obtain⟨w,ew,rw'⟩:=r.get h2;have hl:=r.length;have hn:=kg;have fin:EP X pins σ Q w s:=⟨z,H,I,rw',q⟩;exact subscriptTail_builtinR (x:=w) pl.typeIs slot_tuple_getitem.lookup
  (getItem_tuple (j:=j) (Q:=λr s'=>r=w/\EP X pins σ Q r s') pl `a `a (by rw[OH,<- hl];exact h1) (by simpa using ew) ⟨rfl,fin⟩) hs
def JE:lL X Ik:=by
 intro value slice pins s σ H x y v u Q I rx ry h hs;obtain⟨z,i,c,rfl,rfl,hz,he,q⟩:=h;obtain⟨t,rfl⟩:=rx;obtain⟨t',rfl⟩:=ry;obtain⟨j,h1,h2,h3,h4,h5⟩:=rn he;have hl:z.cps.toList.length=z.length:=by simp[Str.length]
 rw[hl] at h1 h4 h5;have hn:=kg;exact tail_any (typeIs_str s z t) slot_str_getitem.lookup (getItem_str (c:=c) (by
  have e1:decide (i < -(2^63:Int))=false:=decide_eq_false `a
  have e2:decide (i≥2^63)=false:=decide_eq_false `a
  rw[e1,e2,Bool.or_false]) (by rw[h1];simpa using h2) {.str {#[c]},H,I.tok _,{_,rfl},q}) hs
noncomputable def Im (K:OA):R2:=λx y H Q=>Il K x y H Q\/Ij K x y H Q\/Ik x y H Q
def JF:lL X (Im X.K):=Gj.or (JD.or JE)
def xR (its:List Oz)(n j:Nat)(u:Oz):Obj.mapSeq (·.setIfInBounds j u) {cls:=.type "list",data:=.seq its.toArray n}={cls:=.type "list",data:=.seq (its.set j u).toArray n}:=by
 simp[Obj.mapSeq]
def Inv.lst {pins:List (Addr×Obj)}{σ:St}{H:Hp}{s:OD}{p:Addr}{xs:List V}(I:Inv X pins σ H s)(h:H p=some (.lst xs)) :
 ∃(its:List Oz) (n:Nat),Vals xs its/\s.heap.get? p=some {cls:=.type "list",data:=.seq its.toArray n}/\xs.length<=sizeLine:=by
 obtain⟨z,its,n,r,e⟩:=I.hok p _ h;exact⟨its,n,r,e,z⟩
def Inv.lstUpd {pins:List (Addr×Obj)}{σ:St}{H:Hp}{s:OD}{p:Addr}{xs ys:List V}{its its':List Oz}{n n':Nat}{f:Obj->Obj}(I:Inv X pins σ H s)(h:H p=some (.lst xs))
 (ho:s.heap.get? p=some {cls:=.type "list",data:=.seq its.toArray n}) (hf:f {cls:=.type "list",data:=.seq its.toArray n}={cls:=.type "list",data:=.seq its'.toArray n'}) (r:Vals ys its') (hz:ys.length<=sizeLine) (t:Nat) :
 Inv X pins σ (upd H p (.lst ys)) {s with heap:=s.heap.update p f,toks:=t}:=by
 have e:(s.heap.update p f).get? p=some {cls:=.type "list",data:=.seq its'.toArray n'}:=by
  rw[Qd f ho (by rw[hf]<;>rfl),hf]
 refine I.write (x:=p) (e:=p) (by rw[h];trivial) (.inl rfl) (λb u hb q=>(PH _ _ (PZ hb)).trans q) {_,e} ?_
 exact⟨hz,its',n',r,e⟩
noncomputable def DY:V->V->V->Hp->(Hp->Prop)->Prop:=λo i v H Q=>∃p xs k j,o=.ref p/\i=.int k/\H p=some (.lst xs)/\bw xs.length k=some j/\Q (upd H p (.lst (xs.set j v)))
def set_list:Kr X DY:=by
 intro pins s σ H o i v ov iv u Q I ro ri rv h;obtain⟨p,xs,k,j,rfl,rfl,hp,hj,q⟩:=h;cases ro;obtain⟨t,rfl⟩:=ri;obtain⟨its,n,r,ho,hz⟩:=I.lst hp;obtain⟨h1,h2,h3,h4⟩:=wI hj;have hl:=r.length;have hn:=kg;have I':Inv X pins σ (upd H p (.lst (xs.set j v))) {s with heap:=s.heap.update p (Obj.mapSeq (·.setIfInBounds j u))}:=
  I.lstUpd hp ho (xR its n j u) (r.set rv j) (by rw[List.length_set];exact hz) s.toks
 by_cases h0:0<=k
 ·have hk:k.toNat=j:=by
   rw[seqIndex_of h0 h4] at h1;exact OG h1
  exact PySem.W.ki_setAt ho h0 `a (by rw[OH,<- hl];exact h4) (by rw[hk];exact{_,I',q})
 ·have hk:(k+(its.toArray.size:Int)).toNat=j:=by
   rw[seqIndex_neg `a h3] at h1
   rw[OH,<- hl];exact OG h1
  exact PySem.W.ki_setBack ho `a (by rw[OH,<- hl];exact h3) `a (by rw[hk];exact{_,I',q})
def ud (lo hi:Option Int)(n:Nat):(sliceBounds lo hi none n).1=((HT.aS n 0 lo:Nat):Int)/\(sliceBounds lo hi none n).2.1=((HT.aS n n hi:Nat):Int)/\(sliceBounds lo hi none n).2.2=1:=by
 refine{?_,?_,rfl}
 ·cases lo with
  |none=>simp[sliceBounds,HT.aS]
  | some i =>
    simp only[sliceBounds,HT.aS,Option.getD_none,show(1:Int) > 0 by decide,if_true]
    by_cases h:i<0
    ·simp only[h,if_true]<;>omega
    ·simp only[h,if_false]<;>omega
 ·cases hi with
  |none=>simp[sliceBounds,HT.aS]
  | some i =>
    simp only[sliceBounds,HT.aS,Option.getD_none,show(1:Int) > 0 by decide,if_true]
    by_cases h:i<0
    ·simp only[h,if_true]<;>omega
    ·simp only[h,if_false]<;>omega
def sQ (its:List Oz)(lo hi:Option Int):slicePick its.toArray lo hi none=((its.drop (HT.aS its.length 0 lo)).take (HT.aS its.length its.length hi-HT.aS its.length 0 lo)).toArray:=by
 obtain⟨h1,h2,h3⟩:=ud lo hi its.toArray.size;unfold slicePick;rw[h1,h2,h3];simp only[sliceRange_one,pick_run,OH]<;>rfl
noncomputable def Ih (K:OA):V->Option Int->Option Int->Hp->VK->Prop:=λx lo hi H Q=>∃a xs,x=.ref a/\c9 K H a xs/\∀p,H p=none->Q (.ref p) (upd H p (.lst (mX xs lo hi)))
def Ft:mx X (Ih X.K):=by
 intro pins s σ H x v vl vu lo hi sl Q I rx hs pl pu h;obtain⟨a,xs,rfl,hx,q⟩:=h;cases rx;obtain⟨its,r,ht,hz⟩:=I.list hx;have hlen:=r.length;refine{"list",_,slot_list_getitem.lookup,ht.isList.typeIs,?_};refine wpAny_getItem_list_slice ht.isList hs pl pu .none `s ?_ (by rw[OH]<;>omega)
 rw[sQ,<- hlen];refine{.ref s.heap.objs.size,_,I.laid (t':=s.toks) (o:=.lst (mX xs lo hi)) (λb ob q=>OE _ q) (OF _) ?_,rfl,q _ (I.hok.fresh (OF _))};exact{OI (n8 xs lo hi) hz,_,0,(r.drop (HT.aS xs.length 0 lo)).take (HT.aS xs.length xs.length hi-HT.aS xs.length 0 lo),OZ _ rfl}
def vj:di X (.builtin "len") (λxs H Q=>∃p ys,xs=[.ref p]/\(c9 X.K H p ys\/dQ X.K H p ys)/\Q (.int ys.length) H):=by
 intro pins s σ H xs us Q I r h;obtain⟨p,ys,rfl,hq,q⟩:=h;obtain⟨u,rfl,rx⟩:=vals1 r;cases rx;have hn:=kg;rcases hq with hq|hq
 ·obtain⟨its,r',pl,hz⟩:=I.list hq;have hlen:=r'.length;exact Calls.call_len_list pl.isList (by simp only[OH]<;>omega) {.int ys.length,H,I.tok _,{s.toks+1,by rw[OH,hlen]},q}
 ·obtain⟨its,r',pl,hz⟩:=I.tuple hq;have hlen:=r'.length;exact len_tuple pl (by simp only[OH]<;>omega) {.int ys.length,H,I.tok _,{s.toks+1,by rw[OH,hlen]},q}
def vi:di X (.builtin "len") (λxs H Q=>∃z,xs=[.str z]/\z.length<=sizeLine/\Q (.int z.length) H):=by
 intro pins s σ H xs us Q I r h;obtain⟨z,rfl,hz,q⟩:=h;obtain⟨u,rfl,t,rfl⟩:=vals1 r;have hn:=kg;exact len_str `a {.int z.length,H,I.tok _,{_,rfl},q}
def di.or {f:Oz}{r r':List V->Hp->VK->Prop}(h:di X f r)(h':di X f r'):di X f (λxs H Q=>r xs H Q\/r' xs H Q):=by
 intro pins s σ H xs us Q I rs q;rcases q with q|q
 ·exact h pins s σ H xs us Q I rs q
 ·exact h' pins s σ H xs us Q I rs q
def vh:di X (.type "list") (λxs H Q=>∃p ys,xs=[.ref p]/\(c9 X.K H p ys\/dQ X.K H p ys)/\∀l,H l=none->Q (.ref l) (upd H l (.lst ys))):=by
 intro pins s σ H xs us Q I r h;obtain⟨p,ys,rfl,hq,q⟩:=h;obtain⟨u,rfl,rx⟩:=vals1 r;cases rx;have fin:∀(its:List Oz),Vals ys its->ys.length<=sizeLine->∀(h':Heap) (c':Nat),(∀b o',s.heap.get? b=some o'->h'.get? b=some o')->
  h'.get? s.heap.objs.size=some {cls:=.type "list",dict:=none,data:=.seq its.toArray c',slots:=#[]}->EP X pins σ Q (.ref s.heap.objs.size) {s with heap:=h'}:=λits r' hz h' c' kp e=>
  {.ref s.heap.objs.size,_,I.laid (t':=s.toks) kp (OF _) (show dg X.prog X.w _ h' _ (.lst ys) from⟨hz,its,c',r',e⟩),rfl,q _ (I.hok.fresh (OF _))}
 rcases hq with hq|hq
 ·obtain⟨its,r',pl,hz⟩:=I.list hq;have hlen:=r'.length;obtain⟨o,ho,hc,n,hd⟩:=pl.isList;exact call_list_seq p (.inl rfl) ho hc hd (λh' c' kp e=>fin its r' hz h' c' kp e) (by simp only[OH]<;>omega)
 ·obtain⟨its,r',pl,hz⟩:=I.tuple hq;have hlen:=r'.length;obtain⟨o,ho,hc,n,hd⟩:=pl;exact call_list_seq p (.inr rfl) ho hc hd (λh' c' kp e=>fin its r' hz h' c' kp e) (by simp only[OH]<;>omega)
def sT:di X (.type "tuple") (λxs H Q=>∃p ys,xs=[.ref p]/\((c9 X.K H p ys/\∀l,H l=none->Q (.ref l) (upd H l (.tup ys)))\/(dQ X.K H p ys/\Q (.ref p) H))):=by
 intro pins s σ H xs us Q I r h;obtain⟨p,ys,rfl,h⟩:=h;obtain⟨u,rfl,rx⟩:=vals1 r;cases rx;rcases h with⟨hq,q⟩|⟨hq,q⟩
 ·obtain⟨its,r',pl,hz⟩:=I.list hq;have hlen:=r'.length;refine call_tuple_list pl.isList (λh' kp=>?_) (by simp only[OH]<;>omega)
  have I1:Inv X pins σ H {s with heap:=h'}:=I.kept (t':=s.toks) kp
  have I2:Inv X pins σ (upd H h'.objs.size (.tup ys)) {s with heap:=h'.push {cls:=.type "tuple",data:=.seq its.toArray}}:=
   I1.laid (t':=s.toks) (λb o e=>OE _ e) (OF _) (show dg X.prog X.w _ _ _ (.tup ys) from{hz,its,r',IsTup.new _ _})
  exact{.ref h'.objs.size,_,I2,rfl,q _ (I1.hok.fresh (OF _))}
 ·obtain⟨its,r',pl,hz⟩:=I.tuple hq;exact call_tuple_same pl {.ref p,H,I,rfl,q}
noncomputable def Mj (K:OA)(T:String)(x:V)(H:Hp):Prop:=match x with
 |.str _=>T="str"
 |.int _=>T="int"
 |.ref p=>(T="list"/\∃xs,c9 K H p xs)\/(T="tuple"/\∃o,K.lookup p=some o/\o.cls=.type "tuple"/\o.dict=none)\/
  (T="dict"/\((∃kvs,H p=some (.dK kvs))\/∃kvs,H p=some (.dT kvs)))\/(T="set"/\∃S n,H p=some (.set S n))
 |_=>False
def Hu {pins:List (Addr×Obj)}{σ:St}{H:Hp}{s:OD}{T:String}{x:V}{v:Oz}(I:Inv X pins σ H s)(r:RelV x v)(ty:Mj X.K T x H) :
 s.TypeIs v T/\∀a,v=.ref a->∃ob,s.heap.get? a=some ob/\ob.dict=none:=by
 cases x with
 | str z =>
   obtain⟨t,rfl⟩:=r;cases (show T="str" from ty);exact{typeIs_str s z t,λ_ e=>nomatch e}
 | int i =>
   obtain⟨t,rfl⟩:=r;cases (show T="int" from ty);exact{typeIs_int s i t,λ_ e=>nomatch e}
 | ref p =>
   cases r;rcases ty with⟨rfl,xs,hq⟩|⟨rfl,o,hk,hc,hd⟩|⟨rfl,hk⟩|⟨rfl,S,n,hk⟩
   ·obtain⟨its,_,pl,_⟩:=I.list hq;refine{pl.isList.typeIs,λa e=>?_};cases e;obtain⟨o,n,e,c,hd,_⟩:=pl;exact⟨o,e,hd⟩
   ·refine{{o,I.kIn p o hk,hc},λa e=>?_};cases e;exact{o,I.kIn _ o hk,hd}
   ·have z:∃o,s.heap.get? p=some o/\o.ExactDict:=by
     rcases hk with⟨kvs,hk⟩|⟨kvs,hk⟩
     ·obtain⟨_,_,_,_,o,_,_,e,ex,_⟩:=I.hok p _ hk;exact⟨o,e,ex⟩
     ·obtain⟨_,_,_,_,o,_,_,e,ex,_⟩:=I.hok p _ hk;exact⟨o,e,ex⟩
    obtain⟨o,e,ex⟩:=z;refine{⟨o,e,ex.1⟩,λa e2=>?_};cases e2;exact⟨o,e,ex.2.1⟩
   ·obtain⟨o,_,_,_,e,ex,_⟩:=I.hok p _ hk;refine{⟨o,e,ex.1⟩,λa e2=>?_};cases e2;exact⟨o,e,ex.2.1⟩
 |_=>exact False.elim ty
noncomputable def tBM (K:OA)(T:String)(r:V->List V->Hp->VK->Prop)(to:TE)(t:TA):TE:=λσ H Q=>to σ H λx H1=>Mj K T x H1/\t σ H1 λxs H2=>r x xs H2 Q
variable{o e:Expr}{es:List Expr}{to:TE}{t:TA}{name:Str}{apos cpos:Pos}{T id:String}{r:V->List V->Hp->VK->Prop}
def xB (pa:PlainAttrs T)(slot:Slot T name id)(hty:typeOf (.builtin id)=pure (.type "method_descriptor"))(hm:Ks X id r)(ho:PE X o to)(ha:PA X (e::es) t)
 (hbase:attributeBase o name X.env (eval o X.env)=eval o X.env:=by rfl)
 (hfew:((backTo cpos (starEach (e::es) X.env)).all (λx=>!x.1)&&(backToKw cpos (keywordEach [] X.env)).all (λx=>x.1.isSome)
  && decide ((e::es).length+([]:List Keyword).length+(if ([]:List Keyword).isEmpty then 0 else 1)<30))=true:=by rfl)
 (hline:(apos.endLine==cpos.line)=true:=by rfl) (hs:starEach (e::es) X.env=(false,eval e X.env)::starEach es X.env:=by rfl) (hplain:(backTo cpos (starEach es X.env)).any (·.1)=false:=by rfl) :
 PE X (.Call (.Attribute o name apos) (e::es) [] cpos) (tBM X.K T r to t):=by
 intro pins s σ H Q I h;refine wpAny_Call_method_late hbase hfew hline rfl (a9 (ho pins s σ H _ I h) λv s1 ⟨x,H1,I1,r1,ty,q1⟩=>?_);obtain⟨h1,h2⟩:=Hu I1 r1 ty;refine{T,id,pa,slot,hty,h1,h2,?_};have hA:=ha cpos pins s1 σ H1 _ I1 q1;rw[hs] at hA ⊢;refine Calls.callWith_builtin (by show(false||(backTo cpos (starEach es X.env)).any (·.1))=false;rw[hplain]<;>rfl) (Calls.evalArgs_plain ?_)
 exact a9 hA λus s2 ⟨vs,H2,I2,r2,q2⟩=>hm pins s2 σ H2 x vs v us Q I2 r1 r2 q2
end
noncomputable def MP (X:Cx)(id:String)(r:V->List V->Hp->VK->Prop):Prop:=
 ∀(pins:List (Addr×Obj)) (s:OD) (σ:St) (H:Hp) (x:V) (xs:List V) (v:Oz) (us:List Oz) (Q:VK),Inv X pins σ H s->RelV x v->Vals xs us->r x xs H Q->
  wpAny (model X.prog X.w) X.A (call (.builtin id) (v::us)) (EP X pins σ Q) X.xe s
def Vals.one:∀{x:V}{us:List Oz},Vals [x] us->∃u,us=[u]/\RelV x u
 |_,_,.cons r .nil=>{_,rfl,r}
def Vals.rep {xs:List V}{us:List Oz}(h:Vals xs us):∀k:Nat,Vals (List.replicate k xs).flatten (List.replicate k us).flatten
 |0=>.nil
 | k + 1 => by
   rw[Qh,Qh,Qw,Qw];exact Vals.append h (Vals.rep h k)
def foldl_rep (its:List Oz):∀(k:Nat) (acc:List Oz),
 List.foldl (λx1 x2=>x1++x2) acc.toArray (List.replicate k its.toArray)=(acc++(List.replicate k its).flatten).toArray
 |0,acc=>`s
 | k + 1, acc => by
   have e:acc.toArray++its.toArray=(acc++its).toArray:=`s
   have e2:(acc++its)++(List.replicate k its).flatten=acc++(List.replicate (k+1) its).flatten:=by
    rw[Qh,Qw,List.append_assoc]
   rw[<- e2,<- foldl_rep its k (acc++its),<- e,Qh,List.foldl_cons]
section
variable{X:Cx}{pins:List (Addr×Obj)}{σ:St}{H:Hp}{s:OD}{l b:Addr}{xs ys zs:List V}
def Inv.lset {its its':List Oz}{n:Nat}{f:Array Oz->Array Oz}{t':Nat}(I:Inv X pins σ H s)(hH:H l=some (.lst xs))
 (e:s.heap.get? l=some {cls:=.type "list",data:=.seq its.toArray n}) (hf:f its.toArray=its'.toArray) (hv:Vals ys its') (hz:ys.length<=sizeLine) :
 Inv X pins σ (upd H l (.lst ys)) {s with heap:=s.heap.update l (Obj.mapSeq f),toks:=t'}:=by
 have q:=PySem.IsL.update e f;rw[hf] at q;refine I.write (x:=l) (e:=l) (by rw[hH];exact trivial) (.inl rfl) (λb' u hb hu=>(PH s.heap (Obj.mapSeq f) (PZ hb)).trans hu) {_,q} ?_
 exact{hz,its',_,hv,q}
def Inv.lnew {its:List Oz}{t':Nat}(I:Inv X pins σ H s)(hv:Vals ys its)(hz:ys.length<=sizeLine) :
 Inv X pins σ (upd H s.heap.objs.size (.lst ys)) {s with heap:=s.heap.push {cls:=.type "list",data:=.seq its.toArray},toks:=t'}:=
 I.laid (λ_ _ q=>OE _ q) (OF _) {hz,its,0,hv,OZ _ rfl}
def Inv.fresh (I:Inv X pins σ H s):H s.heap.objs.size=none:=I.hok.fresh (OF _)
def Inv.lstM (I:Inv X pins σ H s)(hH:H l=some (.lst xs)):xs.length<=sizeLine/\∃(its:List Oz) (n:Nat),Vals xs its/\xs.length=its.length/\s.heap.get? l=some {cls:=.type "list",data:=.seq its.toArray n}:=by
 obtain⟨z,its,n,r,e⟩:=I.hok l _ hH;exact⟨z,its,n,r,r.length,e⟩
def uF {n:Nat}(h:n<=sizeLine):Builtin.List.listTooLong n=false:=by
 unfold Builtin.List.listTooLong;exact decide_eq_false `a
end
section
variable{X:Cx}
noncomputable def FK:V->List V->Hp->VK->Prop:=λx vs H Q=>∃l xs y,x=.ref l/\vs=[y]/\H l=some (.lst xs)/\xs.length<sizeLine/\Q .non (upd H l (.lst (xs++[y])))
def r9:MP X "list.append" FK:=by
 intro pins s σ H x vs v us Q I rx rv h;obtain⟨l,xs,y,rfl,rfl,hH,hz,q⟩:=h;cases rx;obtain⟨u,rfl,ru⟩:=rv.one;obtain⟨z,its,n,r,hl,e⟩:=I.lstM hH;refine call_meets F.slot_list_append {_,e,rfl} F.entry_list_append (F.args_list_append_2 _ _) (PySem.list_append l its.toArray n u (by rw[OH];omega)) {e,?_}
 refine{.non,_,I.lset (its':=its++[u]) hH e `s (r.append (.cons ru .nil)) ?_,rfl,q}
 rw[Pz,List.length_singleton];omega
noncomputable def FJ:V->List V->Hp->VK->Prop:=λx vs H Q=>∃l b xs zs,x=.ref l/\vs=[.ref b]/\H l=some (.lst xs)/\H b=some (.lst zs)/\xs.length+zs.length<=sizeLine/\Q .non (upd H l (.lst (xs++zs)))
def MD:MP X "list.extend" FJ:=by
 intro pins s σ H x vs v us Q I rx rv h;obtain⟨l,b,xs,zs,rfl,rfl,hH,hB,hz,q⟩:=h;cases rx;obtain⟨u,rfl,ru⟩:=rv.one;cases ru;obtain⟨z,its,n,r,hl,e⟩:=I.lstM hH;obtain⟨z2,its2,n2,r2,hl2,e2⟩:=I.lstM hB;have hsz:its.toArray.size+its2.toArray.size<=sizeLine:=by rw[OH,OH];omega
 have hlong:¬ (!its.toArray.isEmpty&&Builtin.List.listTooLong (its.toArray.size+its2.toArray.size))=true:=by
  rw[uF hsz,Bool.and_false];exact Pc
 refine call_meets F.slot_list_extend {_,e,rfl} F.entry_list_extend (F.args_list_extend_2 _ _)
  (AutoSeq1.list_extend_list_list_0 l its.toArray n b its2.toArray n2 hlong (by rw[OH];omega) `a) {e,e2,?_}
 refine{.non,_,I.lset (its':=its++its2) hH e `s (r.append r2) ?_,rfl,q}
 rw[Pz];omega
noncomputable def Nt:R2:=λx y H Q=>∃l b xs zs,x=.ref l/\y=.ref b/\H l=some (.lst xs)/\H b=some (.lst zs)/\xs.length+zs.length<=sizeLine/\∀p,H p=none->Q (.ref p) (upd H p (.lst (xs++zs)))
def IY:bV X (binaryOp .Add) Nt:=by
 intro pins s σ H x y v u Q I rx ry h;obtain⟨l,b,xs,zs,rfl,rfl,hH,hB,hz,q⟩:=h;cases rx;cases ry;obtain⟨z,its,n,r,hl,e⟩:=I.lstM hH;obtain⟨z2,its2,n2,r2,hl2,e2⟩:=I.lstM hB;refine PySem.P.add_list e e2 ?_ (by rw[OH,OH];omega)
 have ea:its.toArray++its2.toArray=(its++its2).toArray:=`s
 rw[ea];exact{.ref _,_,I.lnew (t':=s.toks) (r.append r2) (by rw[Pz];omega),rfl,q _ I.fresh}
noncomputable def Nq:R2:=λx y H Q=>∃l k xs,x=.ref l/\y=.int k/\H l=some (.lst xs)/\-(2^63)<=k/\k<2^63/\xs.length*k.toNat<=sizeLine/\
 ∀p,H p=none->Q (.ref p) (upd H p (.lst (List.replicate k.toNat xs).flatten))
def len_rep {α:Type}(xs:List α)(k:Nat):(List.replicate k xs).flatten.length=k*xs.length:=by
 induction k with
 |zero=>simp
 |succ k ih=>rw[Qh,Qw,Pz,ih,Nat.succ_mul,Nat.add_comm]
def IT:bV X (binaryOp .Mult) Nq:=by
 intro pins s σ H x y v u Q I rx ry h;obtain⟨l,k,xs,rfl,rfl,hH,h1,h2,hz,q⟩:=h;cases rx;obtain⟨t,rfl⟩:=ry;obtain⟨z,its,n,r,hl,e⟩:=I.lstM hH;have hlen:its.toArray.size*k.toNat<=sizeLine:=by rw[OH,<- hl];exact hz
 have hcap:¬ its.toArray.size*k.toNat > (2^63-1) / 8:=by
  have:(sizeLine:Nat)<=(2^63-1) / 8:=`d
  omega
 have hfit:¬ (!Builtin.List.listFitsIndex k)=true:=by
  rw[fitsIndex_both h1 h2];exact Pc
 have hlong:¬ Builtin.List.listTooLong (its.toArray.size*k.toNat)=true:=by
  rw[uF hlen];exact Pc
 have hnew:List.foldl (λx1 x2=>x1++x2) #[] (List.replicate (if its.toArray.isEmpty=true then 0 else k.toNat) its.toArray)=(List.replicate k.toNat its).flatten.toArray:=by
  have f0:∀m:Nat,List.foldl (λx1 x2=>x1++x2) #[] (List.replicate m its.toArray)=(List.replicate m its).flatten.toArray:=λm=>by
   have:=foldl_rep its m [];rw[Qg] at this;exact this
  rw[f0];cases its with
  |nil=>simp
  |cons a r'=>rw[if_neg `s]
 refine wpAny_binaryOp_repeat_ref (T:="list") (U:="int") `d {_,e,rfl} (λs'=>typeIs_int s' k t) noFill_list_mul F.fills_int_mul F.slot_int_rmul repeat_list F.slot_int_index.lookup
  (call_meets F.slot_int_rmul (typeIs_int s k t) F.entry_int_rmul (F.args_int_rmul_2 _ _) (int___rmul___int_list k t l its.toArray n)
   {e,rfl,{_,e,rfl},call_meets F.slot_list_mul {_,e,rfl} F.entry_list_mul (F.args_list_mul_2 _ _) (AutoListH.list___mul___list_int_3 l its.toArray n k t hfit hcap hlong) {e,?_}})
 rw[hnew];exact{.ref _,_,I.lnew (t':=s.toks) (r.rep k.toNat) (by rw[len_rep,Nat.mul_comm];exact hz),rfl,q _ I.fresh}
end
end L2
namespace Att
open PySem PySem.W PySem.Calls PyProof.Rows
def pZ {P:P6}{h:Heap}:∀(ns:List Int) (vs:List Oz),WellAll P h vs (ns.map WData.int)->IntsAre vs ns:=by
 intro ns;induction ns with
 | nil =>
   intro vs w;rw[List.map_nil] at w;cases w;exact .nil
 | cons n ns ih =>
   intro vs w;rw[Qm] at w;cases w with
   | cons a b =>
     cases a;exact .cons _ _ (ih _ b)
def zB {l:OpenLaw}{n:Nat}(hn:l.most=some n){P:P6}{h:Heap}{args:List WData}{vals:List Oz}
 (hpre:l.row.toRowW.claim.pre args=true) (hwl:WellAll P h vals args) :
 ∃a vs ns,vals=[Value.ref a]/\args=[WData.list (ns.map WData.int)]/\h.get? a=some {cls:=.type "list",data:=.seq vs.toArray}/\IntsAre vs ns/\ns.length<=n:=by
 have hsh:WShape.hasAll [] args [.list .int]=true:=(pre_splitW hpre).1;have hc:l.pre.holds [] {args:=args}=true:=(pre_splitW hpre).2;obtain⟨d,r,rfl,h1,h2⟩:=hasAllW_cons hsh;obtain rfl:=hasAllW_nil h2;obtain⟨xs,rfl,h3⟩:=hasW_list h1;obtain⟨ns,rfl⟩:=items_int h3;have hlen:ns.length<=n:=by
  unfold OpenLaw.pre at hc;have h4:(WTm.not (.lt (.lit (.int (n:Int))) (.len (.arg 0)))).holds [] {args:=[.list (ns.map .int)]}=true:=by
   have h4:=(holds_andW hc).1;rw[hn] at h4;exact h4
  have h5:=condW_of h4 (w_not (w_lt w_lit (w_len_list (w_arg rfl))));rw[OM] at h5;refine Nat.le_of_not_lt λq=>?_;have q':(n:Int)<((ns.length:Nat):Int):=`a
  first
   |(rw[decide_eq_true q'] at h5;exact absurd h5 `d)
   |(simp at h5;omega)
 cases hwl with
 | cons w1 w2 =>
   cases w2;cases w1 with
   |list ho hall=>exact{_,_,ns,rfl,rfl,ho,pZ ns _ hall,hlen}
def zO (l:OpenLaw)(args:List WData):l.row.toRowW.claim.post args (.bool true) args=true:=
 postW_of (r:=l.row.toRowW) (X:=(true==true))
  (show WShape.has [] (.bool true) .bool=true by first|rfl|decide|simp[WShape.has,WShape.arms,WShape.armsAll])
  (show(WTm.eq .res (.lit (.bool true))).value [] {args:=args,res:=some (.bool true),after:=args}=some (.bool (true==true)) from w_eq_bool (w_res rfl) w_lit) rfl
def attach_call {l:OpenLaw}{n:Nat}{q:OX}{loose:List Str}{XP:(Str->Option Oz)->Heap->Prop}{YP:O6->Heap->Prop}{d:DefRec}
 (hn:l.most=some n) (hdf:d.params.defaults=[])
 (call:∀(w:O6) (s₀ s₁:OD) (mg mb:Str->Option Oz) (fa:Addr) (o:Obj) (pm cd doc:Oz) (a:Addr) (vs:List Oz) (ns:List Int),
  Ground q loose [] XP w s₀ mg mb s₁.heap->YP w s₁.heap->
  s₁.heap.get? fa=some o->o.data=.func (docDef d.name d.params d.body d.scope pm cd doc)->s₁.heap.CodeRec cd d.name->mg d.name=some (.ref fa)->
  s₁.heap.get? a=some {cls:=.type "list",data:=.seq vs.toArray}->IntsAre vs ns->ns.length<=n->s₁.gens=#[]->
  codeAny (model l.prog w) callerA (.call (.ref fa) {[.ref a],[]}) (λr s'=>r=.ok (.ret (.bool true))/\OldK s₁.heap s'.heap/\s'.os=s₁.os/\AllBare s'.gens) s₁) :
 WalkO q loose XP YP l.row.toRowW d [] (λf vs=>PySem.call f vs):=by
 intro w s₀ s₁ mg mb G Y fa o pm cd doc dV kV ho hd hcd hD hmg hg args vals as hpre hlay hrd hwl hlo;obtain rfl:dV=.none:=Dflts.none hD hdf;obtain rfl:kV=.none:=Dflts.noKw hD;obtain⟨a,vs,ns,rfl,rfl,hobj,hints,hlen⟩:=zB hn hpre hwl;refine enter_call (codeAny_mono (call w s₀ s₁ mg mb fa o pm cd doc a vs ns G Y ho (fd_plain hd) hcd hmg hobj hints hlen hg) λr s' hq=>?_);obtain⟨rfl,h2,h3,h4⟩:=hq;exact{.inl {.bool true,.bool true,[],rfl,λ_=>rfl,.bool true,zO l _,λ_=>{List.Pairwise.nil,λ_ hm=>(nomatch hm)}},h2,h3,h4}
end Att
namespace L2
open PySem PySem.Spec PyProof.Rows
def rH:∀{vs:List Oz}{ns:List Int},IntsAre vs ns->Vals (ns.map V.int) vs
 |_,_,.nil=>.nil
 |_,_,.cons n t h=>.cons ⟨t,rfl⟩ (rH h)
noncomputable def yD (H:Hp):Prop:=∀b,H b=none\/∃o xs,H b=some (.frz o (.lst xs))
def Cw {P:OX}{w:O6}{K:OA}{mg mb:Str->Option Oz}{CX:oj}{k:Nat}{fa a:Addr}{fd:QH}{x:Str}{sp:Sp}{s₁:OD}{vs:List Oz}{ns:List Int}
 (KX:K.In s₁.heap) (hns:s₁.heap.Ns mainGlobals mg) (hb:s₁.heap.Ns builtinsNs mb) (hbb:∀x:Str,x≠"__name__"->mb x=bootBuiltins x) (hlim:s₁.heap.NoLimit) (hg:s₁.gens=#[])
 (ha:s₁.heap.get? a=some {cls:=.type "list",data:=.seq vs.toArray}) (hi:IntsAre vs ns) (hl:ns.length<=sizeLine) (hr:cv k callerA)
 (F:∀base:Heap,K.In base->base.Ns mainGlobals mg->lp P w K mg base CX k fa fd [x] sp) (hbind:∀(s:OD) (u:Oz),BindsTo s fd {[u],[]} [(x,u)])
 (hsp:∀H:Hp,yD H->c9 K H a (ns.map V.int)->sp [.ref a] H (λv _=>v=.bl true) λ_ _ _=>False)
 (hCX:∀H e s',CX [] H s₁ (λ_ _ _=>False) e s'->False) :
 codeAny (model P w) callerA (.call (.ref fa) {[.ref a],[]}) (λr s'=>r=.ok (.ret (.bool true))/\OldK s₁.heap s'.heap/\s'.os=s₁.os/\AllBare s'.gens) s₁:=by
 have rv:=rH hi;have lenV:=hi.length;have core:∀H:Hp,yD H->c9 K H a (ns.map V.int)->fb P w H s₁.heap->(∀b,H b≠none->b=a)->(H a≠none->K.lookup a=none)->
  codeAny (model P w) callerA (.call (.ref fa) {[.ref a],[]}) (λr s'=>r=.ok (.ret (.bool true))/\OldK s₁.heap s'.heap/\s'.os=s₁.os/\AllBare s'.gens) s₁:=by
  intro H hO hS hok hA hK;have iZ:∀{b:Addr}{o:Obj},s₁.heap.get? b=some o->H b=none->(ma s₁.heap H).get? b=some o:=λe n=>CG e n;have noA:∀{b:Addr}{o:Obj}{es:Array QA}{ep:Nat},s₁.heap.get? b=some o->o.data=.dict es ep->H b=none:=λ{b o es ep} e d=>by
   cases q:H b with
   |none=>rfl
   | some u =>
     have e':b=a:=hA b (by rw[q];simp)
     subst e';rw[ha] at e;cases e;have d':Data.seq vs.toArray _=Data.dict es ep:=d;cases d'
  have nsK:∀{b:Addr}{m:Str->Option Oz},s₁.heap.Ns b m->(ma s₁.heap H).Ns b m:=λ{b m} ⟨o,es,ep,e,d,r⟩=>{o,es,ep,iZ e (noA e d),d,r};have hKb:K.In (ma s₁.heap H):=λb o e=>iZ (KX b o e) (by
   cases q:H b with
   |none=>rfl
   | some u =>
     have e':b=a:=hA b (by rw[q];simp)
     subst e';rw[hK (by rw[q];simp)] at e;cases e)
  have hM:Mod K mg (ma s₁.heap H):={hKb,nsK hns,{mb,nsK hb,hbb},let⟨mc,h1,h2⟩:=hlim;{mc,nsK h1,h2}}
  have e0:pf P w K mg (ma s₁.heap H) callerA [] s₁ H:={rfl,hM,λb o e=>F4 e,Nat.le_of_eq (AE _ _),trivial,λb hb=>absurd (show b∈([]:List Addr) from hb) `s,hok,.of_eq hg}
  refine codeAny_mono ((F _ hKb (nsK hns)).run callerA [] s₁ H {[.ref a],[]} [.ref a] [.ref a] _ _ hr e0 (hbind s₁ (.ref a)) (.cons rfl .nil) (hsp H hO hS)) λr s' h=>?_;cases r with
  |error e=>exact(hCX H e s' h).elim
  | ok fl =>
    cases fl with
    |next=>exact False.elim h
    |brk=>exact False.elim h
    |cont=>exact False.elim h
    | ret u =>
      obtain⟨v,H',os,bare,un,hok',r',q⟩:=h;have q':v=.bl true:=q;subst q';obtain rfl:u=Value.bool true:=r';refine{rfl,OldK.of_keep λb o e=>?_,os,bare};cases q:H b with
      |none=>exact un.keep b o e q (by intro z;exact absurd (show b∈([]:List Addr) from z) `s) `s
      | some u =>
        rcases hO b with z|⟨ob,xs,z⟩
        ·rw[q] at z;cases z
        ·have z2:=un.frzs b ob _ z;obtain⟨e1,_⟩:=hok b _ z;obtain⟨e2,_⟩:=hok' b _ z2;rw[e] at e1;cases e1;exact e2
 cases hk:K.lookup a with
 | some o =>
   have e:=KX a o hk;rw[ha] at e;cases e;refine core (λ_=>none) (λ_=>.inl rfl) (.inr {_,vs.toArray,_,hk,rfl,rfl,rfl,by rw[OH,lenV];exact hl,by simpa using rv}) (λb u z=>by have z':(none:Option HO)=some u:=z;cases z') (λb z=>absurd rfl z) λz=>absurd rfl z
 | none =>
   refine core (λb=>if b=a then some (.frz {cls:=.type "list",data:=.seq vs.toArray} (.lst (ns.map V.int))) else none) (λb=>?_) (.inl (.inr {{cls:=.type "list",data:=.seq vs.toArray},if_pos rfl})) (λb u z=>?_) (λb z=>?_) λ_=>hk
   ·by_cases hb:b=a
    ·exact .inr {_,_,if_pos hb}
    ·exact .inl (if_neg hb)
   ·by_cases hb:b=a
    ·have z':=(if_pos hb).symm.trans z;cases z';subst hb;exact{ha,by rw[OM];exact hl,vs,_,rv,ha}
    ·have z':=(if_neg hb).symm.trans z;cases z'
   ·by_cases hb:b=a
    ·exact hb
    ·exact absurd (if_neg hb) z
def EY {l:PySem.W.OpenLaw}{n k:Nat}{q:OX}{loose:List Str}{XP:(Str->Option Oz)->Heap->Prop}{YP:O6->Heap->Prop}{d:DefRec}{K:P6->OA}{CX:O6->oj}{sp:O6->Sp}{x:Str}
 (hn:l.most=some n) (hn2:n<=sizeLine) (hdf:d.params.defaults=[]) (hr:cv k callerA)
 (hY:∀(w:O6) (h:Heap),YP w h->(K w.params).In h)
 (F:∀(w:O6) (mg:Str->Option Oz) (fa:Addr) (h:Heap),(K w.params).In h->h.Ns mainGlobals mg->mg d.name=some (.ref fa)->
  ∃fd:QH,(∀(s:OD) (u:Oz),BindsTo s fd {[u],[]} [(x,u)])/\
   ∀base:Heap,(K w.params).In base->base.Ns mainGlobals mg->lp l.prog w (K w.params) mg base (CX w) k fa fd [x] (sp w))
 (hsp:∀(w:O6) (H:Hp) (a:Addr) (ns:List Int),ns.length<=n->yD H->c9 (K w.params) H a (ns.map V.int)->sp w [.ref a] H (λv _=>v=.bl true) λ_ _ _=>False)
 (hCX:∀(w:O6) (H:Hp) (s:OD) (e:Oz) (s':OD),CX w [] H s (λ_ _ _=>False) e s'->False) :
 PySem.W.WalkO q loose XP YP l.row.toRowW d [] (λf vs=>PySem.call f vs):=by
 refine Att.attach_call hn hdf λw s₀ s₁ mg mb fa o pm cd doc a vs ns G Y ho hd hcd hmg hobj hints hlen hg=>?_;have KX:=hY w _ Y;obtain⟨fd,hb,hF⟩:=F w mg fa _ KX G.T.g hmg;exact Cw KX G.T.g G.T.b G.T.builtins G.T.nolimit hg hobj hints (OI hlen hn2) hr hF hb (λH hO hS=>hsp w H a ns hlen hO hS) λH e s'=>hCX w H s₁ e s'
noncomputable def gx (s:Stmt):Arguments:=match s with
 |.FunctionDef _ a _ _ _ _ _ _ _ _=>a
 |_=>{posonlyargs:=[],args:=[],vararg:=none,kwonlyargs:=[],kw_defaults:=[],kwarg:=none,defaults:=[]}
noncomputable def dA (s:Stmt):List Stmt:=match s with
 |.FunctionDef _ _ b _ _ _ _ _ _ _=>b
 |_=>[]
noncomputable def aW (s:Stmt):Scope:=match s with
 |.FunctionDef _ _ _ _ _ _ sc _ _ _=>sc
 |_=>{kind:=.function,names:=[],isGenerator:=false,isCoroutine:=false}
abbrev E0:XK:=λ_ _ _=>False
structure sN (K:OA) (x qual:Str) (st:Stmt) (f:Addr) (fd:QH):Prop where
 ex:∃(oc:Oz) (od:Option Addr) (kV doc pm:Oz) (an:Option Addr) (cdv ct:Oz) (osl:Array (Option Oz)),
  fd=PySem.W.fnOf x qual (gx st) (dA st) (aW st) .none kV doc pm an cdv ct/\K.lookup f=some {oc,od,.func fd,osl}/\PySem.W.codeIn K cdv qual=true
 kp:PySem.W.keepIn K (.ref f)=true
section
variable{P:OX}{w:O6}{K:OA}{mg:Str->Option Oz}{base:Heap}
def sN.binds {x qual:Str}{st:Stmt}{f:Addr}{fd:QH}{ps:List Str}(F:sN K x qual st f fd)
 (h:∀(kV doc pm:Oz) (an:Option Addr) (cdv ct:Oz) (us:List Oz),us.length=ps.length->bindArgs (PySem.W.fnOf x qual (gx st) (dA st) (aW st) .none kV doc pm an cdv ct) {us,[]}=pure (ps.zip us)):Binds K fd ps []:=by
 obtain⟨oc,od,kV,doc,pm,an,cdv,ct,osl,rfl,lk,hcd⟩:=F.ex;exact .all (h kV doc pm an cdv ct)
def AG {x qual:Str}{st:Stmt}{f:Addr}{oc:Oz}{od an:Option Addr}{osl:Array (Option Oz)}{kV doc pm cdv ct:Oz}(l:K.lookup f=some {oc,od,.func (PySem.W.fnOf x qual (gx st) (dA st) (aW st) .none kV doc pm an cdv ct),osl})
 (c:PySem.W.codeIn K cdv qual=true) (k:PySem.W.keepIn K (.ref f)=true):sN K x qual st f (PySem.W.fnOf x qual (gx st) (dA st) (aW st) .none kV doc pm an cdv ct):={⟨oc,od,kV,doc,pm,an,cdv,ct,osl,rfl,l,c⟩,k}
end
end L2
namespace LD
open PySem
inductive D where
 |non|bl (b:Bool)|int (i:Int)|str (x:Str)|tup (ds:List D)|lst (ds:List D)|frz (ds:List D)|cell (k:Nat)|fn (f:Nat)|exc (c:Nat) (p:Option Int)
 deriving Inhabited
abbrev Mem:=List (List D)
abbrev Env:=List (Option D)
inductive Res (α:Type) where
 |ok (a:α) (M:Mem)
 |err (x:D) (M:Mem)
 |bad
noncomputable def Res.bind {α β:Type}(r:Res α)(f:α->Mem->Res β):Res β:=match r with
 |.ok a M=>f a M
 |.err x M=>.err x M
 |.bad=>.bad
@[simp] theorem Res.bind_ok {α β:Type}(a:α)(M:Mem)(f:α->Mem->Res β):(Res.ok a M).bind f=f a M:=rfl
@[simp] theorem Res.bind_err {α β:Type}(x:D)(M:Mem)(f:α->Mem->Res β):(Res.err x M:Res α).bind f=.err x M:=rfl
@[simp] theorem Res.bind_bad {α β:Type}(f:α->Mem->Res β):(Res.bad:Res α).bind f=.bad:=rfl
inductive mz where
 |add|sub|mul|fdiv|mod|pow
 deriving DecidableEq
inductive kr where
 |eq|ne|lt|le|gt|ge|isN|notN|isin|notin
 deriving DecidableEq
inductive Ty where
 |int|bool|str|tuple|list|own (c:Str)
 deriving DecidableEq
inductive xb where
 |len|tuple|list (m:Bool)|listR (m:Bool)|all|sum|repr
 deriving DecidableEq
inductive dB where
 |one (i:Nat)
 |tup (l:List Nat)
noncomputable def sz:Nat:=16777216
noncomputable def bE (m:Bool)(ds:List D)(M:Mem):Res D:=if ds.length<=sz then(if m then .ok (.cell M.length) (M++[ds]) else .ok (.lst ds) M) else .bad
noncomputable def lZ (ds:List D)(M:Mem):Res D:=if ds.length<=sz then .ok (.tup ds) M else .bad
noncomputable def cm (M:Mem):D->Option (List D)
 |.lst ds=>some ds
 |.tup ds=>some ds
 |.frz ds=>some ds
 |.cell k=>M[k]?
 |_=>none
noncomputable def fZ (M:Mem):D->Option (List D)
 |.lst ds=>some ds
 |.frz ds=>some ds
 |.cell k=>M[k]?
 |_=>none
noncomputable def kc (M:Mem):D->Option (List D)
 |.lst ds=>some ds
 |.cell k=>M[k]?
 |_=>none
noncomputable def aC:Nat->D->Bool
 |_,.non=>true
 |_,.bl _=>true
 |_,.int _=>true
 |_,.str x=>x.cps.all (· < 0x110000)
 |n+1,.tup ds=>ds.all (aC n)
 |n+1,.lst ds=>ds.all (aC n)
 |0,.tup _=>false
 |0,.lst _=>false
 |_,.frz _=>false
 |_,.cell _=>false
 |_,.fn _=>false
 |_,.exc _ _=>false
mutual
def dJ:D->D->Bool
 |.non,.non=>true
 |.bl a,.bl b=>a==b
 |.bl a,.int b=>(if a then 1 else 0)==b
 |.int a,.bl b=>a==(if b then 1 else 0)
 |.int a,.int b=>a==b
 |.str a,.str b=>a==b
 |.tup a,.tup b=>jD a b
 |.lst a,.lst b=>jD a b
 |_,_=>false
def jD:List D->List D->Bool
 |[],[]=>true
 |a::r,b::t=>dJ a b&&jD r t
 |[],_::_=>false
 |_::_,[]=>false
end
def iM:D->Bool
 |.str _=>true
 |_=>false
noncomputable def qg (a b:D):Option Bool:=if iM a&&iM b||aC 64 a&&aC 64 b then some (dJ a b) else none
noncomputable def view (M:Mem):D->D
 | .cell k => match M[k]? with
   |some ds=>.lst ds
   |none=>.cell k
 |.frz ds=>.lst ds
 |d=>d
noncomputable def cw:Nat->Mem->D->D
 |0,_,d=>d
 | n + 1, M, .cell k => match M[k]? with
   |some ds=>.lst (ds.map (cw n M))
   |none=>.cell k
 |n+1,M,.frz ds=>.lst (ds.map (cw n M))
 |n+1,M,.lst ds=>.lst (ds.map (cw n M))
 |n+1,M,.tup ds=>.tup (ds.map (cw n M))
 |_+1,_,d=>d
noncomputable def lI (M:Mem)(a b:D):Option Bool:=match qg (view M a) (view M b) with
 |some r=>some r
 |none=>qg (cw 64 M a) (cw 64 M b)
noncomputable def k9 (M:Mem):D->Option Bool
 |.non=>some false
 |.bl b=>some b
 |.int i=>some (i != 0)
 |.str x=>if x.cps.size<=sz then some (x.cps.size != 0) else none
 |.tup ds=>some (!ds.isEmpty)
 |.lst ds=>some (!ds.isEmpty)
 |.frz ds=>some (!ds.isEmpty)
 |.cell k=>(M[k]?).map λds=>!ds.isEmpty
 |.fn _=>none
 |.exc _ _=>none
noncomputable def bw (n:Nat)(i:Int):Option Nat:=if 0<=i then(if i<n then some i.toNat else none) else if -(n:Int)<=i then some (i+n).toNat else none
noncomputable def fY (m:Bool)(o:mz)(a b:D)(M:Mem):Res D:=match o,a,b with
 |.add,.int i,.int j=>.ok (.int (i+j)) M
 |.add,.str x,.str y=>if x.cps.size+y.cps.size<=sz then .ok (.str {x.cps++y.cps}) M else .bad
 |.add,.tup x,.tup y=>lZ (x++y) M
 | .add, a, b => match kc M a, kc M b with
   |some x,some y=>bE m (x++y) M
   |_,_=>.bad
 |.sub,.int i,.int j=>.ok (.int (i-j)) M
 |.mul,.int i,.int j=>if (-(2^64)<i/\i<2^64)\/(-(2^64)<j/\j<2^64) then .ok (.int (i*j)) M else .bad
 |.mul,.tup x,.int j=>if x.length*j.toNat<=sz/\-(2^63)<=j/\j<2^63 then .ok (.tup (List.replicate j.toNat x).flatten) M else .bad
 | .mul, a, .int j => match kc M a with
   |some x=>if x.length*j.toNat<=sz/\-(2^63)<=j/\j<2^63 then bE m (List.replicate j.toNat x).flatten M else .bad
   |none=>.bad
 |.fdiv,.int i,.int j=>if 0<j/\j<1073741824 then .ok (.int (i / j)) M else .bad
 |.mod,.int i,.int j=>if 0<j then .ok (.int (i % j)) M else .bad
 |.pow,.int i,.int j=>if 0<=j/\j<=1000000/\i.natAbs<2^64 then .ok (.int (i^j.toNat)) M else .bad
 |_,_,_=>.bad
noncomputable def iC (x:D)(ds:List D):Option Bool:=if aC 64 x&&ds.all (aC 63) then some (ds.any λy=>dJ y x) else none
noncomputable def jZ (x y:Str):Bool:=!(Builtin.Str.occurrences y x 0 y.length 1).isEmpty
def kL:D->Bool
 |.non=>true
 |_=>false
noncomputable def br (o:kr)(a b:D)(M:Mem):Option Bool:=match o,a,b with
 |.eq,a,b=>lI M a b
 |.ne,a,b=>(lI M a b).map (!·)
 |.lt,.int i,.int j=>some (decide (i<j))
 |.le,.int i,.int j=>some (decide (i<=j))
 |.gt,.int i,.int j=>some (decide (j<i))
 |.ge,.int i,.int j=>some (decide (j<=i))
 |.isN,a,.non=>some (kL a)
 |.notN,a,.non=>some (!kL a)
 |.isin,.str x,.str y=>some (jZ x y)
 |.notin,.str x,.str y=>some (!jZ x y)
 |.isin,a,b=>(cm M b).bind (iC (view M a))
 |.notin,a,b=>((cm M b).bind (iC (view M a))).map (!·)
 |_,_,_=>none
noncomputable def bZ (a i:D)(M:Mem):Option D:=match a,i with
 |.str x,.int i=>if x.cps.size<=sz then(bw x.cps.size i).bind λj=>(x.cps[j]?).map λc=>.str {#[c]} else none
 |a,.int i=>(cm M a).bind λds=>(bw ds.length i).bind λj=>ds[j]?
 |_,_=>none
noncomputable def aS (n d:Nat):D->Option Nat
 |.non=>some d
 |.int v=>some (if v<0 then(v+(n:Int)).toNat else min v.toNat n)
 |_=>none
noncomputable def cH:Bool->D->Bool
 |true,.int _=>true
 |false,.non=>true
 |_,_=>false
noncomputable def cut {α:Type}(xs:List α)(lo hi:Nat):List α:=(xs.drop lo).take (hi-lo)
noncomputable def fq (m:Bool)(a lo hi:D)(M:Mem):Res D:=match a with
 | .tup xs => match aS xs.length 0 lo, aS xs.length xs.length hi with
   |some l,some h=>.ok (.tup (cut xs l h)) M
   |_,_=>.bad
 | a => match fZ M a with
   | some xs => match aS xs.length 0 lo, aS xs.length xs.length hi with
     |some l,some h=>bE m (cut xs l h) M
     |_,_=>.bad
   |none=>.bad
noncomputable def bI (t:Ty):D->Option Bool
 |.non=>some false
 |.bl _=>some (t==.bool||t==.int)
 |.int _=>some (t==.int)
 |.str _=>some (t==.str)
 |.tup _=>some (t==.tuple)
 |.lst _=>some (t==.list)
 |.frz _=>some (t==.list)
 |.cell _=>some (t==.list)
 |.fn _=>none
 |.exc _ _=>none
noncomputable def boolsOf:List D->Option (List Bool)
 |[]=>some []
 |.bl b::r=>(boolsOf r).map (b::·)
 |_=>none
noncomputable def intsOf:List D->Option (List Int)
 |[]=>some []
 |.int b::r=>(intsOf r).map (b::·)
 |_=>none
noncomputable def eY (f:xb)(ds:List D)(M:Mem):Res D:=match f,ds with
 |.len,[.str x]=>if x.cps.size<=sz then .ok (.int x.cps.size) M else .bad
 | .len, [d] => match cm M d with
   |some xs=>.ok (.int xs.length) M
   |none=>.bad
 |.tuple,[.tup xs]=>.ok (.tup xs) M
 | .tuple, [d] => match fZ M d with
   |some xs=>.ok (.tup xs) M
   |none=>.bad
 | .list m, [d] => match cm M d with
   |some xs=>bE m xs M
   |none=>.bad
 |.listR m,[.int n]=>if n<2^20 then bE m ((List.range n.toNat).map λ(k:Nat)=>D.int (k:Int)) M else .bad
 | .all, [d] => match fZ M d with
   | some xs => match boolsOf xs with
     |some bs=>.ok (.bl (bs.all id)) M
     |none=>.bad
   |none=>.bad
 | .sum, [d] => match fZ M d with
   | some xs => match intsOf xs with
     |some is=>.ok (.int is.sum) M
     |none=>.bad
   |none=>.bad
 |_,_=>.bad
noncomputable def eP:List Nat->List D->Env->Option Env
 |[],[],Z=>some Z
 |i::l,d::ds,Z=>eP l ds (Z.set i (some d))
 |_,_,_=>none
noncomputable def cX (t:dB)(d:D)(Z:Env):Option Env:=match t,d with
 |.one i,d=>some (Z.set i (some d))
 |.tup l,.tup ds=>eP l ds Z
 |.tup _,_=>none
abbrev Walk:=Mem->Option (List D)
noncomputable def b8:Nat->List D->List D
 |_,[]=>[]
 |k,d::r=>.tup [.int k,d]::b8 (k+1) r
noncomputable def jA:List D->List D->List D
 |a::r,b::t=>.tup [a,b]::jA r t
 |_,_=>[]
noncomputable def gp:List D->List D->List D->List D
 |a::r,b::t,c::q=>.tup [a,b,c]::gp r t q
 |_,_,_=>[]
noncomputable def Et {α:Type}(f:α->D->Mem->Res α):List D->α->Mem->Res α
 |[],a,M=>.ok a M
 |d::r,a,M=>(f a d M).bind (Et f r)
noncomputable def fG {α:Type}(f:α->D->Mem->Res α)(w:Walk):Nat->Nat->α->Mem->Res α
 |0,_,_,_=>.bad
 | n + 1, i, a, M => match w M with
   |none=>.bad
   | some ds => match ds[i]? with
     |none=>.ok a M
     |some d=>(f a d M).bind (fG f w n (i+1))
noncomputable def dX {α:Type}(f:α->D->Mem->Res α)(w:Walk)(a:α)(M:Mem):Res α:=fG f w (((w M).getD []).length+1) 0 a M
noncomputable def cK {α:Type}(M:Mem):Option α->Res α
 |some a=>.ok a M
 |none=>.bad
@[simp] theorem Cg {α:Type}(M:Mem)(a:α):cK M (some a)=.ok a M:=rfl
@[simp] theorem Nu {α:Type}(M:Mem):(cK M none:Res α)=.bad:=rfl
inductive Fl where
 |next (Z:Env)
 |ret (d:D)
 |exc (x:D) (Z:Env)
def yv {a b:Int}:dJ (.int a) (.int b)=(a==b):=rfl
def EG {x y:Str}:dJ (.str x) (.str y)=(x==y):=rfl
end LD
namespace LD
open PySem PySem.Spec PyProof.Rows L2
structure Mu where
 pub:Nat->Option Addr
 priv:List Addr
def Mu.Mt (μ:Mu)(a:Addr):Prop:=(∃k,μ.pub k=some a)\/a∈μ.priv
abbrev Fa:=Nat->Option Addr
noncomputable def KL (K:OA)(a:Addr)(xs:List V):Prop:=
 ∃(o:Obj) (its:Array Oz) (n:Nat),K.lookup a=some o/\o.cls=.type "list"/\o.dict=none/\o.data=.seq its n/\its.size<=sizeLine/\Vals xs its.toList
noncomputable def w6 (C:Addr)(dx:Option Addr)(a:Addr)(h:Heap):Prop:=∃o vs,h.get? a=some o/\o.cls=.ref C/\o.dict=dx/\o.data=.fields vs/\1<vs.size
def fV (c:Nat):Str:=if c=1 then "number" else "place"
noncomputable def yA (H:Hp)(c:Nat)(dx:Option Addr):Option Int->Prop
 |none=>dx=none
 |some i=>∃d,dx=some d/\H d=some (.xd [(fV c,.int i)])
def fz (c:Nat):Nat:=1000+c
section
variable(fa:Fa)(K:OA)(μ:Mu)(H:Hp)
mutual
def Rep:D->V->Prop
 |.non,v=>v=.non
 |.bl b,v=>v=.bl b
 |.int i,v=>v=.int i
 |.str x,v=>v=.str x
 |.tup ds,v=>∃a vs,v=.ref a/\dQ K H a vs/\aR ds vs
 |.lst ds,v=>∃a vs,v=.ref a/\(H a=some (.lst vs)/\¬ μ.Mt a)/\aR ds vs
 |.frz ds,v=>∃a vs,v=.ref a/\((∃ob,H a=some (.frz ob (.lst vs)))\/KL K a vs)/\aR ds vs
 |.cell k,v=>∃a,v=.ref a/\μ.pub k=some a
 |.fn f,v=>∃a,v=.ref a/\fa f=some a
 |.exc c p,v=>∃a C dx,v=.ref a/\fa (fz c)=some C/\H a=some (.ext (w6 C dx a))/\yA H c dx p
def aR:List D->List V->Prop
 |[],vs=>vs=[]
 |d::ds,vs=>∃v r,vs=v::r/\Rep d v/\aR ds r
end
end
def IsX (o:HO):Prop:=(∃φ,o=.ext φ)\/∃fs,o=.xd fs
structure ExtW (μ:Mu) (H:Hp) (μ':Mu) (H':Hp):Prop where
 mu:∀k a,μ.pub k=some a->μ'.pub k=some a
 tups:∀a vs,Rd H a (.tup vs)->Rd H' a (.tup vs)
 lsts:∀a vs,H a=some (.lst vs)->¬ μ.Mt a->H' a=some (.lst vs)/\¬ μ'.Mt a
 frzs:∀a ob u,H a=some (.frz ob u)->H' a=some (.frz ob u)
 exts:∀a o,IsX o->H a=some o->H' a=some o
structure Ext (μ:Mu) (H:Hp) (μ':Mu) (H':Hp):Prop extends ExtW μ H μ' H' where
 pr:μ'.priv=μ.priv
 pk:∀a∈μ.priv,H' a=H a
def ExtW.refl {μ:Mu}{H:Hp}:ExtW μ H μ H:={λ_ _ h=>h,λ_ _ h=>h,λ_ _ h n=>⟨h,n⟩,λ_ _ _ h=>h,λ_ _ _ h=>h}
def ExtW.trans {μ μ1 μ2:Mu}{H H1 H2:Hp}(a:ExtW μ H μ1 H1)(b:ExtW μ1 H1 μ2 H2):ExtW μ H μ2 H2:=
 {λk x h=>b.mu k x (a.mu k x h),λx vs h=>b.tups x vs (a.tups x vs h),λx vs h n=>b.lsts x vs (a.lsts x vs h n).1 (a.lsts x vs h n).2,λx ob u h=>b.frzs x ob u (a.frzs x ob u h),λx o i h=>b.exts x o i (a.exts x o i h)}
def Ext.refl {μ:Mu}{H:Hp}:Ext μ H μ H:={.refl,rfl,λ_ _=>rfl}
def Ext.trans {μ μ1 μ2:Mu}{H H1 H2:Hp}(a:Ext μ H μ1 H1)(b:Ext μ1 H1 μ2 H2):Ext μ H μ2 H2:=
 {a.toExtW.trans b.toExtW,b.pr.trans a.pr,λx hx=>(b.pk x (by rw[a.pr];exact hx)).trans (a.pk x hx)}
section
variable{fa:Fa}{K:OA}{μ μ':Mu}{H H':Hp}
def ExtW.sqT {a:Addr}{vs:List V}(x:ExtW μ H μ' H')(h:dQ K H a vs):dQ K H' a vs:=h.elim (λz=>.inl (x.tups a vs z)) .inr
mutual
def Rep.extW (x:ExtW μ H μ' H'):∀{d:D}{v:V},Rep fa K μ H d v->Rep fa K μ' H' d v
 |.non,v,h=>h
 |.bl b,v,h=>h
 |.int i,v,h=>h
 |.str y,v,h=>h
 | .tup ds, v, h => by
   obtain⟨a,vs,e,s,r⟩:=h;exact{a,vs,e,x.sqT s,aR.extW x r}
 | .lst ds, v, h => by
   obtain⟨a,vs,e,s,r⟩:=h;exact{a,vs,e,x.lsts a vs s.1 s.2,aR.extW x r}
 | .frz ds, v, h => by
   obtain⟨a,vs,e,s,r⟩:=h;exact{a,vs,e,s.elim (λ⟨ob,z⟩=>.inl {ob,x.frzs a ob _ z}) .inr,aR.extW x r}
 | .cell k, v, h => by
   obtain⟨a,e,m⟩:=h;exact{a,e,x.mu k a m}
 |.fn f,v,h=>h
 | .exc c p, v, h => by
   obtain⟨a,C,dx,e,f,g,n⟩:=h;refine{a,C,dx,e,f,x.exts _ _ (.inl {_,rfl}) g,?_};cases p with
   |none=>exact n
   |some i=>exact let⟨d,h1,h2⟩:=n;{d,h1,x.exts _ _ (.inr {_,rfl}) h2}
def aR.extW (x:ExtW μ H μ' H'):∀{ds:List D}{vs:List V},aR fa K μ H ds vs->aR fa K μ' H' ds vs
 |[],vs,h=>h
 | d :: ds, vs, h => by
   obtain⟨v,r,e,p,q⟩:=h;exact{v,r,e,Rep.extW x p,aR.extW x q}
end
def Rep.ext (x:Ext μ H μ' H'){d:D}{v:V}(h:Rep fa K μ H d v):Rep fa K μ' H' d v:=Rep.extW x.toExtW h
def aR.ext (x:Ext μ H μ' H'){d:List D}{v:List V}(h:aR fa K μ H d v):aR fa K μ' H' d v:=aR.extW x.toExtW h
def aR.length:∀{ds:List D}{vs:List V},aR fa K μ H ds vs->vs.length=ds.length
 | [], vs, h => by
   have h:vs=[]:=h;subst h;rfl
 | d :: ds, vs, h => by
   obtain⟨v,r,e,p,q⟩:=h;subst e;simp[aR.length q]
def aR.get:∀{ds:List D}{vs:List V}{i:Nat}{d:D},aR fa K μ H ds vs->ds[i]?=some d->∃v,vs[i]?=some v/\Rep fa K μ H d v
 |[],_,_,_,_,e=>by simp at e
 | d :: ds, vs, 0, d', h, e => by
   obtain⟨v,r,rfl,p,q⟩:=h;simp at e;subst e;exact⟨v,rfl,p⟩
 | d :: ds, vs, i + 1, d', h, e => by
   obtain⟨v,r,rfl,p,q⟩:=h;obtain⟨u,h1,h2⟩:=aR.get (i:=i) q (by simpa using e)
   exact{u,by simpa using h1,h2}
def aR.append:∀{ds es:List D}{vs ws:List V},aR fa K μ H ds vs->aR fa K μ H es ws->aR fa K μ H (ds++es) (vs++ws)
 | [], _, vs, _, h, g => by
   have h:vs=[]:=h;subst h;exact g
 | d :: ds, es, vs, ws, h, g => by
   obtain⟨v,r,rfl,p,q⟩:=h;exact{v,r++ws,rfl,p,aR.append q g}
def aR.one {d:D}{v:V}(h:Rep fa K μ H d v):aR fa K μ H [d] [v]:={v,[],rfl,h,rfl}
def aR.drop:∀(n:Nat) {ds:List D}{vs:List V},aR fa K μ H ds vs->aR fa K μ H (ds.drop n) (vs.drop n)
 |0,_,_,h=>h
 | n + 1, [], vs, h => by
   have h:vs=[]:=h;subst h;exact rfl
 | n + 1, d :: ds, vs, h => by
   obtain⟨v,r,rfl,p,q⟩:=h;exact aR.drop n q
def aR.take:∀(n:Nat) {ds:List D}{vs:List V},aR fa K μ H ds vs->aR fa K μ H (ds.take n) (vs.take n)
 |0,_,_,h=>rfl
 | n + 1, [], vs, h => by
   have h:vs=[]:=h;subst h;exact rfl
 | n + 1, d :: ds, vs, h => by
   obtain⟨v,r,rfl,p,q⟩:=h;exact{v,r.take n,rfl,p,aR.take n q}
def aR.set:∀(n:Nat) {ds:List D}{vs:List V}{d:D}{v:V},aR fa K μ H ds vs->Rep fa K μ H d v->aR fa K μ H (ds.set n d) (vs.set n v)
 | _, [], vs, _, _, h, _ => by
   have h:vs=[]:=h;subst h;exact rfl
 | 0, d :: ds, vs, _, v', h, g => by
   obtain⟨v,r,rfl,p,q⟩:=h;exact⟨v',r,rfl,g,q⟩
 | n + 1, d :: ds, vs, _, v', h, g => by
   obtain⟨v,r,rfl,p,q⟩:=h;exact{v,r.set n v',rfl,p,aR.set n q g}
def aR.reverse:∀{ds:List D}{vs:List V},aR fa K μ H ds vs->aR fa K μ H ds.reverse vs.reverse
 | [], vs, h => by
   have h:vs=[]:=h;subst h;exact rfl
 | d :: ds, vs, h => by
   obtain⟨v,r,rfl,p,q⟩:=h;rw[List.reverse_cons,List.reverse_cons];exact aR.append (aR.reverse q) (.one p)
def aR.rep:∀(n:Nat) {ds:List D}{vs:List V},aR fa K μ H ds vs->aR fa K μ H (List.replicate n ds).flatten (List.replicate n vs).flatten
 |0,_,_,_=>rfl
 | n + 1, ds, vs, h => by
   rw[Qh,Qh,Qw,Qw];exact h.append (aR.rep n h)
def aR.ints:∀(ns:List Int),aR fa K μ H (ns.map D.int) (ns.map V.int)
 |[]=>rfl
 |n::ns=>{.int n,ns.map V.int,rfl,rfl,aR.ints ns}
end
structure RelM (fa:Fa) (K:OA) (μ:Mu) (H:Hp) (M:Mem):Prop where
 at':∀(k:Nat) (ds:List D),M[k]?=some ds->∃a vs,μ.pub k=some a/\H a=some (.lst vs)/\aR fa K μ H ds vs
 out:∀(k:Nat),M.length<=k->μ.pub k=none
 inj:∀j k a,μ.pub j=some a->μ.pub k=some a->j=k
 pv:∀a∈μ.priv,(∃vs,H a=some (.lst vs))/\∀k,μ.pub k≠some a
structure bt (fa:Fa) (K:OA) (μ:Mu) (H:Hp) (σ:L2.St) (Z:Env):Prop where
 len:σ.length=Z.length
 at':∀(i:Nat) (d:D),Z[i]?=some (some d)->∃v,σ[i]?=some (some v)/\Rep fa K μ H d v
section
variable{fa:Fa}{K:OA}{μ μ':Mu}{H H':Hp}{σ:L2.St}{Z:Env}{M:Mem}
def bt.ext (h:bt fa K μ H σ Z)(x:Ext μ H μ' H'):bt fa K μ' H' σ Z:=
 {h.len,λi d e=>let⟨v,h1,h2⟩:=h.at' i d e;{v,h1,h2.ext x}}
def bt.set (h:bt fa K μ H σ Z){i:Nat}{d:D}{v:V}(r:Rep fa K μ H d v):bt fa K μ H (σ.set i (some v)) (Z.set i (some d)):=by
 refine{by simp[h.len],λj d' e=>?_}
 by_cases hj:j=i
 ·subst hj;have hl:j<Z.length:=by
   have:=(Oy.mp e).1;simpa using this
  rw[Pf hl] at e;cases e;exact{v,Pf (by rw[h.len];exact hl),r}
 ·rw[O3 (PZ hj)] at e;obtain⟨u,h1,h2⟩:=h.at' j d' e;exact{u,by rw[O3 (PZ hj)];exact h1,h2}
def bt.extW (h:bt fa K μ H σ Z)(x:ExtW μ H μ' H'):bt fa K μ' H' σ Z:=
 {h.len,λi d e=>let⟨v,h1,h2⟩:=h.at' i d e;{v,h1,h2.extW x}}
def RelM.mu_lt (h:RelM fa K μ H M){k:Nat}{a:Addr}(e:μ.pub k=some a):∃ds vs,M[k]?=some ds/\H a=some (.lst vs)/\aR fa K μ H ds vs:=by
 by_cases hk:k<M.length
 ·obtain⟨a',vs,h1,h2,h3⟩:=h.at' k M[k] (by simp[hk])
  rw[e] at h1;cases h1;exact{_,vs,by simp[hk],h2,h3}
 ·rw[h.out k `a] at e;cases e
def RelM.fresh (h:RelM fa K μ H M){p:Addr}(hp:H p=none):¬ μ.Mt p:=λe=>by
 rcases e with⟨k,e⟩|e
 ·obtain⟨ds,vs,_,h2,_⟩:=h.mu_lt e;rw[hp] at h2;cases h2
 ·obtain⟨⟨vs,h2⟩,_⟩:=h.pv p e;rw[hp] at h2;cases h2
def RelM.pne (h:RelM fa K μ H M){p a:Addr}(hp:H p=none)(ha:a∈μ.priv):a≠p:=λe=>by
 obtain⟨⟨vs,h2⟩,_⟩:=h.pv a ha;rw[e,hp] at h2;cases h2
def Ext.alloc {p:Addr}{o:HO}(h:RelM fa K μ H M)(hp:H p=none):Ext μ H μ (upd H p o):=by
 have rd:∀a u,Rd H a u->Rd (upd H p o) a u:=λa u h=>by
  rcases h with h|⟨ob,h⟩
  ·exact .inl (by rw[aN (bc h hp)];exact h)
  ·exact .inr {ob,by rw[aN (bc h hp)];exact h}
 exact{{λ_ _ h=>h,λa vs h=>rd a _ h,λa vs h n=>{by rw[aN (bc h hp)];exact h,n},λa ob u h=>by rw[aN (bc h hp)];exact h,λa o _ h=>by rw[aN (bc h hp)];exact h},rfl,λa ha=>by rw[aN (h.pne hp ha)]}
def RelM.alloc (h:RelM fa K μ H M){p:Addr}{o:HO}(hp:H p=none):RelM fa K μ (upd H p o) M:=
 {λk ds e=>let⟨a,vs,h1,h2,h3⟩:=h.at' k ds e;{a,vs,h1,by rw[aN (bc h2 hp)];exact h2,h3.ext (Ext.alloc h hp)},h.out,h.inj,λa ha=>{let{⟨vs,e⟩,_}:=h.pv a ha;{vs,by rw[aN (h.pne hp ha)];exact e},(h.pv a ha).2}}
noncomputable def gu (μ:Mu)(n:Nat)(p:Addr):Mu:={λk=>if k=n then some p else μ.pub k,μ.priv}
def Ext.cell {p:Addr}{o:HO}(h:RelM fa K μ H M)(hp:H p=none):Ext μ H (gu μ M.length p) (upd H p o):=by
 have rd:∀a u,Rd H a u->Rd (upd H p o) a u:=λa u h=>by
  rcases h with h|⟨ob,h⟩
  ·exact .inl (by rw[aN (bc h hp)];exact h)
  ·exact .inr {ob,by rw[aN (bc h hp)];exact h}
 refine{{λk a e=>?_,λa vs g=>rd a _ g,λa vs g n=>{by rw[aN (bc g hp)];exact g,λe=>?_},λa ob u h=>by rw[aN (bc h hp)];exact h,λa o _ h=>by rw[aN (bc h hp)];exact h},rfl,λa ha=>by rw[aN (h.pne hp ha)]}
 ·show(if k=M.length then some p else μ.pub k)=some a;split
  ·next q=>rw[q,h.out _ (OF _)] at e;cases e
  ·exact e
 ·rcases e with⟨k,e⟩|e
  ·have e:(if k=M.length then some p else μ.pub k)=some a:=e;split at e
   ·cases e;exact bc g hp rfl
   ·exact n (.inl ⟨k,e⟩)
  ·exact n (.inr e)
def RelM.cell (h:RelM fa K μ H M){p:Addr}{ds:List D}{vs:List V}(hp:H p=none)(r:aR fa K μ H ds vs) :
 RelM fa K (gu μ M.length p) (upd H p (.lst vs)) (M++[ds]):=by
 have x:Ext μ H (gu μ M.length p) (upd H p (.lst vs)):=Ext.cell h hp;have np:=h.fresh hp;refine{λk ds' e=>?_,λk hk=>?_,λj k a h1 h2=>?_,λa ha=>?_}
 ·by_cases hk:k<M.length
  ·rw[Pd hk] at e;obtain⟨a,ws,h1,h2,h3⟩:=h.at' k ds' e;exact{a,ws,x.mu k a h1,by rw[aN (bc h2 hp)];exact h2,h3.ext x}
  ·have hk':k=M.length:=by
    have:=(Oy.mp e).1;simp at this;omega
   subst hk';rw[PN (OF _)] at e;simp at e;subst e;exact{p,vs,by simp[gu],bW,r.ext x}
 ·simp at hk;show(if k=M.length then some p else μ.pub k)=none;rw[if_neg `a]
  exact h.out k `a
 ·have h1:(if j=M.length then some p else μ.pub j)=some a:=h1;have h2:(if k=M.length then some p else μ.pub k)=some a:=h2;split at h1<;>split at h2
  ·omega
  ·cases h1;exact absurd (.inl ⟨k,h2⟩) np
  ·cases h2;exact absurd (.inl ⟨j,h1⟩) np
  ·exact h.inj j k a h1 h2
 ·obtain⟨⟨ws,e⟩,n⟩:=h.pv a ha;refine{{ws,by rw[aN (h.pne hp ha)];exact e},λk e2=>?_}
  have e2:(if k=M.length then some p else μ.pub k)=some a:=e2;split at e2
  ·cases e2;exact h.pne hp ha rfl
  ·exact n k e2
def ExtW.write {a:Addr}{vs ws:List V}(h2:H a=some (.lst vs))(e:μ.Mt a):ExtW μ H μ (upd H a (.lst ws)):=by
 have ne:∀b u,Rd H b u->(∀xs,u≠.lst xs)->b≠a:=λb u g nu q=>by
  subst q;rcases g with g|⟨ob,g⟩
  ·rw[h2] at g;cases g;exact nu _ rfl
  ·rw[h2] at g;cases g
 have rd:∀b u,b≠a->Rd H b u->Rd (upd H a (.lst ws)) b u:=λb u nb g=>by
  rcases g with g|⟨ob,g⟩
  ·exact .inl (by rw[aN nb];exact g)
  ·exact .inr {ob,by rw[aN nb];exact g}
 exact{λ_ _ q=>q,λb us g=>rd b _ (ne b _ g (λxs q=>by cases q)) g,λb us g n=>{by rw[aN (λq=>n (by rw[q];exact e))];exact g,n},λb ob u g=>by rw[aN (λq=>by rw[q,h2] at g;cases g)];exact g,λb o i g=>by rw[aN (λq=>by rw[q,h2] at g;cases g;rcases i with⟨_,i⟩|⟨_,i⟩<;>cases i)];exact g}
def Ext.write {k:Nat}{a:Addr}{vs ws:List V}(h:RelM fa K μ H M)(e:μ.pub k=some a):Ext μ H μ (upd H a (.lst ws)):=by
 obtain⟨ds,vs,_,h2,_⟩:=h.mu_lt e;exact{ExtW.write h2 (.inl ⟨k,e⟩),rfl,λb hb=>by rw[aN (λq=>(h.pv b hb).2 k (by rw[q];exact e))]}
def RelM.write (h:RelM fa K μ H M){k:Nat}{a:Addr}{ds:List D}{ws:List V}(e:μ.pub k=some a)(r:aR fa K μ H ds ws):RelM fa K μ (upd H a (.lst ws)) (M.set k ds):=by
 have x:Ext μ H μ (upd H a (.lst ws)):=Ext.write (vs:=ws) h e;refine{λj es q=>?_,λj hj=>h.out j (by simpa using hj),h.inj,λb hb=>{let{⟨vs,g⟩,_}:=h.pv b hb;{vs,by rw[x.pk b hb];exact g},(h.pv b hb).2}}
 by_cases hj:j=k
 ·subst hj;have hl:j<M.length:=by have:=(Oy.mp q).1;simpa using this
  rw[Pf hl] at q;cases q;exact{a,ws,e,bW,r.ext x}
 ·rw[O3 (PZ hj)] at q;obtain⟨b,vs,h1,h2,h3⟩:=h.at' j es q;have nb:b≠a:=λz=>hj (h.inj j k a (z ▸ h1) e);exact{b,vs,h1,by rw[aN nb];exact h2,h3.ext x}
end
noncomputable def ai {α:Type}(r:Res α)(k:α->Mem->Prop):Prop:=match r with
 |.ok a M=>k a M
 |_=>False
def aV {α β:Type}{r:Res α}{f:α->Mem->Res β}{k:β->Mem->Prop}(h:ai (r.bind f) k):∃a M,r=.ok a M/\ai (f a M) k:=by
 cases r with
 |ok a M=>exact⟨a,M,rfl,h⟩
 |err=>exact h.elim
 |bad=>exact h.elim
def nB {α:Type}{M:Mem}{o:Option α}{k:α->Mem->Prop}(h:ai (cK M o) k):∃a,o=some a/\k a M:=by
 cases o with
 |none=>exact h.elim
 |some a=>exact⟨a,rfl,h⟩
def aH {α:Type}{r:Res α}{k k':α->Mem->Prop}(h:ai r k)(m:∀a M,k a M->k' a M):ai r k':=by
 cases r with
 |ok a M=>exact m a M h
 |err=>exact h
 |bad=>exact h
section
variable(fa:Fa)(K:OA)
noncomputable def bg (μ:Mu)(H:Hp)(Q:VK)(d:D)(M':Mem):Prop:=∀v H' μ',Ext μ H μ' H'->RelM fa K μ' H' M'->Rep fa K μ' H' d v->Q v H'
noncomputable def tE (g:Env->Mem->Res D):TE:=λσ H Q=>∃μ Z M,bt fa K μ H σ Z/\RelM fa K μ H M/\ai (g Z M) (bg fa K μ H Q)
noncomputable def tT (g:Env->Mem->Res Bool):TT:=λσ H Q=>∃μ Z M,bt fa K μ H σ Z/\RelM fa K μ H M/\ai (g Z M) λb M'=>∀H' μ',Ext μ H μ' H'->RelM fa K μ' H' M'->Q b H'
noncomputable def tA (g:Env->Mem->Res (List D)):TA:=λσ H Q=>∃μ Z M,bt fa K μ H σ Z/\RelM fa K μ H M/\ai (g Z M) λds M'=>∀vs H' μ',Ext μ H μ' H'->RelM fa K μ' H' M'->aR fa K μ' H' ds vs->Q vs H'
end
noncomputable def my (New:Addr->Prop)(C:Addr)(dx:Option Addr)(a:Addr)(h:Heap)(H:Hp):Prop:=New a/\H a=none/\∃o vs,h.get? a=some o/\o.cls=.ref C/\o.dict=dx/\o.data=.fields vs/\
 (vs[1]?=some .none\/∃T oT ts,vs[1]?=some (.ref T)/\T≠a/\New T/\H T=none/\h.get? T=some oT/\oT.data=.fields ts/\ts[3]?=some .none)
noncomputable def lj (X:Cx)(b:Addr):Prop:=X.s₀.heap.get? b=none/\∀p∈X.pn,p.1≠b
noncomputable def XW (fa:Fa)(X:Cx)(μ:Mu)(H:Hp)(x:D)(Z:Env)(M:Mem):Prop:=∀pins σ' H' μ' s' a C dx c p,Inv X pins σ' H' s'->Ext μ H μ' H'->bt fa X.K μ' H' σ' Z->RelM fa X.K μ' H' M->x=.exc c p->fa (fz c)=some C->yA H' c dx p->my (lj X) C dx a s'.heap H'->X.xe (.ref a) s'
noncomputable def ni (fa:Fa)(X:Cx)(μ:Mu)(H:Hp)(D:Ends):Fl->Mem->Prop
 |.next ρ',M'=>∀σ' H' μ',Ext μ H μ' H'->bt fa X.K μ' H' σ' ρ'->RelM fa X.K μ' H' M'->D.nx σ' H'
 |.ret d,M'=>bg fa X.K μ H D.rt d M'
 |.exc x ρ',M'=>XW fa X μ H x ρ' M'
noncomputable def tF (fa:Fa)(X:Cx)(g:Env->Mem->Res Fl):TS:=λD σ H=>∃μ Z M,bt fa X.K μ H σ Z/\RelM fa X.K μ H M/\ai (g Z M) (ni fa X μ H D)
def XW.ext {fa:Fa}{X:Cx}{μ μ':Mu}{H H':Hp}{x:D}{Z:Env}{M:Mem}(h:XW fa X μ H x Z M)(y:Ext μ H μ' H'):XW fa X μ' H' x Z M:=λpins σ1 H1 μ1 s1 a C dx c p I e=>h pins σ1 H1 μ1 s1 a C dx c p I (y.trans e)
section
variable{fa:Fa}{K:OA}{μ μ':Mu}{H H':Hp}{Q:VK}
def bg.ext {d:D}{M:Mem}(h:bg fa K μ H Q d M)(x:Ext μ H μ' H'):bg fa K μ' H' Q d M:=λv H'' μ'' y m r=>h v H'' μ'' (x.trans y) m r
def kD {r:Res D}(h:ai r (bg fa K μ H Q))(x:Ext μ H μ' H'):ai r (bg fa K μ' H' Q):=aH h λ_ _ w=>w.ext x
end
def bG {X:Cx}{e:Expr}{t t':TE}(h:PE X e t)(i:∀σ H Q,t' σ H Q->t σ H Q):PE X e t':=λpins s σ H Q I q=>h pins s σ H Q I (i σ H Q q)
def lA {X:Cx}{e:Expr}{t t':TT}(h:PT X e t)(i:∀σ H Q,t' σ H Q->t σ H Q):PT X e t':=λpins s σ H Q I q=>h pins s σ H Q I (i σ H Q q)
def zL {X:Cx}{e:Expr}{t t':TT}(h:PW X e t)(i:∀σ H Q,t' σ H Q->t σ H Q):PW X e t':=λw pins s σ H Q I q=>h w pins s σ H Q I (i σ H Q q)
def zW {X:Cx}{e:List Expr}{t t':TA}(h:PA X e t)(i:∀σ H Q,t' σ H Q->t σ H Q):PA X e t':=λpos pins s σ H Q I q=>h pos pins s σ H Q I (i σ H Q q)
def fQ {X:Cx}{e:Stmt}{t t':TS}(h:PS X e t)(i:∀D σ H,t' D σ H->t D σ H):PS X e t':=λpins s σ H D I q=>h pins s σ H D I (i D σ H q)
def wm {X:Cx}{e:List Stmt}{t t':TS}(h:nh X e t)(i:∀D σ H,t' D σ H->t D σ H):nh X e t':=λpins s σ H D I q=>h pins s σ H D I (i D σ H q)
section
variable{fa:Fa}{K:OA}{μ:Mu}{H:Hp}{σ:L2.St}{Z:Env}{M:Mem}
def t1 {g:Env->Mem->Res D}{β:Type}{f:D->Mem->Res β}{P:β->Mem->Prop}{R:V->Hp->Prop}(hE:bt fa K μ H σ Z)(hM:RelM fa K μ H M)(h:ai ((g Z M).bind f) P)
 (k:∀x M1 v H1 μ1,Ext μ H μ1 H1->bt fa K μ1 H1 σ Z->RelM fa K μ1 H1 M1->Rep fa K μ1 H1 x v->ai (f x M1) P->R v H1):tE fa K g σ H R:=by
 obtain⟨x,M1,e,q⟩:=aV h;refine{μ,Z,M,hE,hM,?_};rw[e];exact λv H1 μ1 x1 m1 r1=>k x M1 v H1 μ1 x1 (hE.ext x1) m1 r1 q
def zg {g:Env->Mem->Res Bool}{β:Type}{f:Bool->Mem->Res β}{P:β->Mem->Prop}{R:Bool->Hp->Prop}(hE:bt fa K μ H σ Z)(hM:RelM fa K μ H M)(h:ai ((g Z M).bind f) P)
 (k:∀b M1 H1 μ1,Ext μ H μ1 H1->bt fa K μ1 H1 σ Z->RelM fa K μ1 H1 M1->ai (f b M1) P->R b H1):tT fa K g σ H R:=by
 obtain⟨b,M1,e,q⟩:=aV h;refine{μ,Z,M,hE,hM,?_};rw[e];exact λH1 μ1 x1 m1=>k b M1 H1 μ1 x1 (hE.ext x1) m1 q
def tW {g:Env->Mem->Res (List D)}{β:Type}{f:List D->Mem->Res β}{P:β->Mem->Prop}{R:List V->Hp->Prop}(hE:bt fa K μ H σ Z)(hM:RelM fa K μ H M)(h:ai ((g Z M).bind f) P)
 (k:∀ds M1 vs H1 μ1,Ext μ H μ1 H1->bt fa K μ1 H1 σ Z->RelM fa K μ1 H1 M1->aR fa K μ1 H1 ds vs->ai (f ds M1) P->R vs H1):tA fa K g σ H R:=by
 obtain⟨ds,M1,e,q⟩:=aV h;refine{μ,Z,M,hE,hM,?_};rw[e];exact λv H1 μ1 x1 m1 r1=>k ds M1 v H1 μ1 x1 (hE.ext x1) m1 r1 q
end
mutual
def toPy:D->PyData
 |.non=>.none
 |.bl b=>.bool b
 |.int i=>.int i
 |.str x=>.str x
 |.tup ds=>.tuple (bD ds)
 |.lst ds=>.list (bD ds)
 |.frz _=>.none
 |.cell _=>.none
 |.fn _=>.none
 |.exc _ _=>.none
def bD:List D->List PyData
 |[]=>[]
 |d::r=>toPy d::bD r
end
def nj:∀(n:Nat) (d:D),aC n d=true->(toPy d).canLay0=true/\(toPy d).depth<=n:=by
 have all:∀(n:Nat),(∀d,aC n d=true->(toPy d).canLay0=true/\(toPy d).depth<=n)->∀ds:List D,ds.all (aC n)=true->PyData.canLayAll0 (bD ds)=true/\PyData.depthAll (bD ds)<=n:=by
  intro n h ds;induction ds with
  |nil=>intro _;simp[bD,PyData.canLayAll0,PyData.depthAll]
  | cons d r ih =>
    intro q;simp only[PF,OB] at q;obtain⟨h1,h2⟩:=h d q.1;obtain⟨h3,h4⟩:=ih q.2;simp only[bD,PyData.canLayAll0,PyData.depthAll,h1,h3,Bool.and_self,true_and];omega
 intro n;induction n with
 | zero =>
   intro d h;cases d with
   |str x=>exact{by simpa[toPy,PyData.canLay0,PyData.strOk,aC] using h,by simp[toPy,PyData.depth]}
   |tup _=>simp[aC] at h
   |lst _=>simp[aC] at h
   |frz _=>simp[aC] at h
   |cell _=>simp[aC] at h
   |fn _=>simp[aC] at h
   |exc y p=>simp[aC] at h
   |_=>exact{by simp[toPy,PyData.canLay0],by simp[toPy,PyData.depth]}
 | succ n ih =>
   intro d h;cases d with
   |str x=>exact{by simpa[toPy,PyData.canLay0,PyData.strOk,aC] using h,by simp[toPy,PyData.depth]}
   | tup ds =>
     obtain⟨h1,h2⟩:=all n ih ds (by simpa[aC] using h)
     simp only[toPy,PyData.canLay0,PyData.depth,h1,true_and];omega
   | lst ds =>
     obtain⟨h1,h2⟩:=all n ih ds (by simpa[aC] using h)
     simp only[toPy,PyData.canLay0,PyData.depth,h1,true_and];omega
   |frz _=>simp[aC] at h
   |cell _=>simp[aC] at h
   |fn _=>simp[aC] at h
   |exc y p=>simp[aC] at h
   |_=>exact{by simp[toPy,PyData.canLay0],by simp[toPy,PyData.depth]}
def kA {d:D}(h:aC 64 d=true):SeqAt.shaped (toPy d)=true:=by
 obtain⟨h1,h2⟩:=nj 64 d h;simp[SeqAt.shaped,h1,h2]
mutual
def nM:∀(n m:Nat) (a b:D),aC n a=true->aC m b=true->PyData.eqv (toPy a) (toPy b)=dJ a b
 | n, m, .tup a, .tup b, ha, hb => by
   cases n with
   |zero=>simp[aC] at ha
   | succ n =>
     cases m with
     |zero=>simp[aC] at hb
     | succ m =>
       exact oV n m a b (by simpa[aC] using ha) (by simpa[aC] using hb)
 | n, m, .lst a, .lst b, ha, hb => by
   cases n with
   |zero=>simp[aC] at ha
   | succ n =>
     cases m with
     |zero=>simp[aC] at hb
     | succ m =>
       exact oV n m a b (by simpa[aC] using ha) (by simpa[aC] using hb)
 |n,m,.frz _,_,ha,hb=>by cases n<;>simp[aC] at ha
 |n,m,.cell _,_,ha,hb=>by cases n<;>simp[aC] at ha
 |n,m,.fn _,_,ha,hb=>by cases n<;>simp[aC] at ha
 |n,m,.exc _ _,_,ha,hb=>by cases n<;>simp[aC] at ha
 |n,m,_,.frz _,ha,hb=>by cases m<;>simp[aC] at hb
 |n,m,_,.cell _,ha,hb=>by cases m<;>simp[aC] at hb
 |n,m,_,.fn _,ha,hb=>by cases m<;>simp[aC] at hb
 |n,m,_,.exc _ _,ha,hb=>by cases m<;>simp[aC] at hb
 |_,_,.non,.non,_,_=>by first|rfl|simp[toPy,PyData.eqv];rfl
 |_,_,.non,.bl _,_,_=>by first|rfl|simp[toPy,PyData.eqv];rfl
 |_,_,.non,.int _,_,_=>by first|rfl|simp[toPy,PyData.eqv];rfl
 |_,_,.non,.str _,_,_=>by first|rfl|simp[toPy,PyData.eqv];rfl
 |_,_,.non,.tup _,_,_=>by first|rfl|simp[toPy,PyData.eqv];rfl
 |_,_,.non,.lst _,_,_=>by first|rfl|simp[toPy,PyData.eqv];rfl
 |_,_,.bl _,.non,_,_=>by first|rfl|simp[toPy,PyData.eqv];rfl
 |_,_,.bl _,.bl _,_,_=>by first|rfl|simp[toPy,PyData.eqv];rfl
 |_,_,.bl _,.int _,_,_=>by first|rfl|simp[toPy,PyData.eqv];rfl
 |_,_,.bl _,.str _,_,_=>by first|rfl|simp[toPy,PyData.eqv];rfl
 |_,_,.bl _,.tup _,_,_=>by first|rfl|simp[toPy,PyData.eqv];rfl
 |_,_,.bl _,.lst _,_,_=>by first|rfl|simp[toPy,PyData.eqv];rfl
 |_,_,.int _,.non,_,_=>by first|rfl|simp[toPy,PyData.eqv];rfl
 |_,_,.int _,.bl _,_,_=>by first|rfl|simp[toPy,PyData.eqv];rfl
 |_,_,.int _,.int _,_,_=>by first|rfl|simp[toPy,PyData.eqv];rfl
 |_,_,.int _,.str _,_,_=>by first|rfl|simp[toPy,PyData.eqv];rfl
 |_,_,.int _,.tup _,_,_=>by first|rfl|simp[toPy,PyData.eqv];rfl
 |_,_,.int _,.lst _,_,_=>by first|rfl|simp[toPy,PyData.eqv];rfl
 |_,_,.str _,.non,_,_=>by first|rfl|simp[toPy,PyData.eqv];rfl
 |_,_,.str _,.bl _,_,_=>by first|rfl|simp[toPy,PyData.eqv];rfl
 |_,_,.str _,.int _,_,_=>by first|rfl|simp[toPy,PyData.eqv];rfl
 |_,_,.str _,.str _,_,_=>by first|rfl|simp[toPy,PyData.eqv];rfl
 |_,_,.str _,.tup _,_,_=>by first|rfl|simp[toPy,PyData.eqv];rfl
 |_,_,.str _,.lst _,_,_=>by first|rfl|simp[toPy,PyData.eqv];rfl
 |_,_,.tup _,.non,_,_=>by first|rfl|simp[toPy,PyData.eqv];rfl
 |_,_,.tup _,.bl _,_,_=>by first|rfl|simp[toPy,PyData.eqv];rfl
 |_,_,.tup _,.int _,_,_=>by first|rfl|simp[toPy,PyData.eqv];rfl
 |_,_,.tup _,.str _,_,_=>by first|rfl|simp[toPy,PyData.eqv];rfl
 |_,_,.tup _,.lst _,_,_=>by first|rfl|simp[toPy,PyData.eqv];rfl
 |_,_,.lst _,.non,_,_=>by first|rfl|simp[toPy,PyData.eqv];rfl
 |_,_,.lst _,.bl _,_,_=>by first|rfl|simp[toPy,PyData.eqv];rfl
 |_,_,.lst _,.int _,_,_=>by first|rfl|simp[toPy,PyData.eqv];rfl
 |_,_,.lst _,.str _,_,_=>by first|rfl|simp[toPy,PyData.eqv];rfl
 |_,_,.lst _,.tup _,_,_=>by first|rfl|simp[toPy,PyData.eqv];rfl
def oV:∀(n m:Nat) (a b:List D),a.all (aC n)=true->b.all (aC m)=true->PyData.eqvAll (bD a) (bD b)=jD a b
 |n,m,[],[],_,_=>by simp[bD,PyData.eqvAll,jD]
 |n,m,[],_::_,_,_=>by simp[bD,PyData.eqvAll,jD]
 |n,m,_::_,[],_,_=>by simp[bD,PyData.eqvAll,jD]
 | n, m, x :: a, y :: b, ha, hb => by
   simp only[PF,OB] at ha hb;simp only[bD,PyData.eqvAll,jD];rw[nM n m x y ha.1 hb.1,oV n m a b ha.2 hb.2]
end
section
variable{fa:Fa}{X:Cx}{μ:Mu}{H:Hp}{σ:L2.St}{pins:List (Addr×Obj)}{s:OD}{M:Mem}
def j9 {d:D}{v:V}{ds:List D}(hM:RelM fa X.K μ H M)(h:Rep fa X.K μ H d v)(e:kc M d=some ds):∃a vs,v=.ref a/\H a=some (.lst vs)/\aR fa X.K μ H ds vs:=by
 cases d with
 | lst xs =>
   cases e;obtain⟨a,vs,e,s,r⟩:=h;exact⟨a,vs,e,s.1,r⟩
 | cell k =>
   obtain⟨a,rfl,hk⟩:=h;obtain⟨b,vs,h1,h2,h3⟩:=hM.at' k ds e;rw[hk] at h1;cases h1;exact⟨a,vs,rfl,h2,h3⟩
 |_=>cases e
def bS {d:D}{v:V}{ds:List D}(hM:RelM fa X.K μ H M)(h:Rep fa X.K μ H d v)(e:fZ M d=some ds):∃a vs,v=.ref a/\c9 X.K H a vs/\aR fa X.K μ H ds vs:=by
 cases d with
 | lst xs =>
   obtain⟨a,vs,h1,h2,h3⟩:=j9 (ds:=ds) hM h e;exact{a,vs,h1,.of h2,h3}
 | frz xs =>
   cases e;obtain⟨a,vs,e,s,r⟩:=h;exact{a,vs,e,s.elim (λz=>.inl (.inr z)) .inr,r}
 | cell k =>
   obtain⟨a,vs,h1,h2,h3⟩:=j9 (ds:=ds) hM h e;exact{a,vs,h1,.of h2,h3}
 |_=>cases e
def j8 {d:D}{v:V}{ds:List D}(hM:RelM fa X.K μ H M)(h:Rep fa X.K μ H d v)(e:cm M d=some ds):∃a vs,v=.ref a/\(c9 X.K H a vs\/dQ X.K H a vs)/\aR fa X.K μ H ds vs:=by
 cases d with
 | tup xs =>
   cases e;obtain⟨a,vs,rfl,h1,h2⟩:=h;exact{a,vs,rfl,.inr h1,h2}
 | lst xs =>
   obtain⟨a,vs,h1,h2,h3⟩:=bS (ds:=ds) hM h e;exact{a,vs,h1,.inl h2,h3}
 | frz xs =>
   obtain⟨a,vs,h1,h2,h3⟩:=bS (ds:=ds) hM h e;exact{a,vs,h1,.inl h2,h3}
 | cell k =>
   obtain⟨a,vs,h1,h2,h3⟩:=bS (ds:=ds) hM h e;exact{a,vs,h1,.inl h2,h3}
 |_=>cases e
mutual
def eQ (I:Inv X pins σ H s):∀(d:D) (n:Nat) (v:V) (u:Oz),aC n d=true->Rep fa X.K μ H d v->RelV v u->∃as,Reads s.heap u (toPy d) as
 | .non, n, v, u, _, h, r => by
   obtain rfl:v=.non:=h;obtain rfl:u=Value.none:=r;exact{_,.none}
 | .bl b, n, v, u, _, h, r => by
   obtain rfl:v=.bl b:=h;obtain rfl:u=Value.bool b:=r;exact{_,.bool b}
 | .int i, n, v, u, _, h, r => by
   obtain rfl:v=.int i:=h;obtain⟨t,rfl⟩:=r;exact{_,.int i t}
 | .str x, n, v, u, _, h, r => by
   obtain rfl:v=.str x:=h;obtain⟨t,rfl⟩:=r;exact{_,.str x t}
 | .tup ds, n, v, u, hp, h, r => by
   cases n with
   |zero=>simp[aC] at hp
   | succ n =>
     obtain⟨a,vs,rfl,h1,h2⟩:=h;obtain rfl:u=Value.ref a:=r;obtain⟨its,rv,⟨o,e1,e2,k,e3⟩,_⟩:=I.tuple h1;obtain⟨as,q⟩:=gq I ds n vs its (by simpa[aC] using hp) h2 rv
     exact{_,.tuple e1 e2 e3 (by simpa using q)}
 | .lst ds, n, v, u, hp, h, r => by
   cases n with
   |zero=>simp[aC] at hp
   | succ n =>
     obtain⟨a,vs,rfl,h1,h2⟩:=h;obtain rfl:u=Value.ref a:=r;obtain⟨its,rv,⟨o,k,e1,e2,e4,e3⟩,_⟩:=I.list (c9.of h1.1);obtain⟨as,q⟩:=gq I ds n vs its (by simpa[aC] using hp) h2 rv
     exact{_,.list e1 e2 e3 (by simpa using q)}
 |.frz k,n,v,u,hp,_,_=>by cases n<;>simp[aC] at hp
 |.cell k,n,v,u,hp,_,_=>by cases n<;>simp[aC] at hp
 |.fn f,n,v,u,hp,_,_=>by cases n<;>simp[aC] at hp
 |.exc _ _,n,v,u,hp,_,_=>by cases n<;>simp[aC] at hp
def gq (I:Inv X pins σ H s):∀(ds:List D) (n:Nat) (vs:List V) (us:List Oz),ds.all (aC n)=true->aR fa X.K μ H ds vs->Vals vs us->∃as,ReadsAll s.heap us (bD ds) as
 | [], n, vs, us, _, h, r => by
   obtain rfl:vs=[]:=h;cases r;exact{_,.nil}
 | d :: ds, n, vs, us, hp, h, r => by
   obtain⟨v,vr,rfl,h1,h2⟩:=h;simp only[PF,OB] at hp;cases r with
   | cons r1 r2 =>
     obtain⟨as,q1⟩:=eQ I d n v _ hp.1 h1 r1;obtain⟨bs,q2⟩:=gq I ds n vr _ hp.2 h2 r2;exact{_,.cons q1 q2}
end
def E1 {d:D}{n:Nat}(h:aC n (view M d)=true):(view M d=d/\aC n d=true)\/∃ds,fZ M d=some ds/\view M d=.lst ds:=by
 cases d with
 | cell k =>
   cases e:M[k]? with
   | none =>
     have ev:view M (.cell k)=.cell k:=by simp[view,e]
     rw[ev] at h;cases n<;>simp[aC] at h
   |some ds=>exact .inr {ds,e,by simp[view,e]}
 |frz ds=>exact .inr ⟨ds,rfl,rfl⟩
 |_=>exact .inl ⟨rfl,h⟩
def lO (I:Inv X pins σ H s)(hM:RelM fa X.K μ H M){d:D}{v:V}{u:Oz}(hp:aC 64 (view M d)=true)(h:Rep fa X.K μ H d v)(r:RelV v u):∃as,Reads s.heap u (toPy (view M d)) as:=by
 rcases E1 hp with⟨e,hp'⟩|⟨ds,e,ev⟩
 ·rw[e];exact eQ I _ 64 v u hp' h r
 ·rw[ev] at hp ⊢;obtain⟨a,vs,rfl,h1,h2⟩:=bS (ds:=ds) hM h e;obtain rfl:u=Value.ref a:=r;obtain⟨its,rv,⟨o,k,e1,e2,e4,e3⟩,_⟩:=I.list h1;obtain⟨as,q⟩:=gq I ds 63 vs its (by simpa[aC] using hp) h2 rv
  exact{_,.list e1 e2 e3 (by simpa using q)}
def ja (I:Inv X pins σ H s)(hM:RelM fa X.K μ H M):∀(n m:Nat) (d:D) (v:V) (u:Oz),aC m (cw n M d)=true->Rep fa X.K μ H d v->RelV v u->∃as,Reads s.heap u (toPy (cw n M d)) as
 |0,m,d,v,u,hp,h,r=>eQ I d m v u hp h r
 | n + 1, m, d, v, u, hp, h, r => by
   have ih:=ja I hM n;have all:∀(m:Nat) (ds:List D) (vs:List V) (us:List Oz),(ds.map (cw n M)).all (aC m)=true->aR fa X.K μ H ds vs->Vals vs us->∃as,ReadsAll s.heap us (bD (ds.map (cw n M))) as:=by
    intro m ds;induction ds with
    | nil =>
      intro vs us _ h r;obtain rfl:vs=[]:=h;cases r;exact{_,.nil}
    | cons d ds ihl =>
      intro vs us hp h r;obtain⟨v,vr,rfl,h1,h2⟩:=h;simp only[Qm,PF,OB] at hp;cases r with
      | cons r1 r2 =>
        obtain⟨as,q1⟩:=ih m d v _ hp.1 h1 r1;obtain⟨bs,q2⟩:=ihl vr _ hp.2 h2 r2;exact{_,.cons q1 q2}
   have lst:∀(ds:List D) (a:Addr) (vs:List V),aC m (.lst (ds.map (cw n M)))=true->c9 X.K H a vs->aR fa X.K μ H ds vs->u=.ref a->∃as,Reads s.heap u (toPy (.lst (ds.map (cw n M)))) as:=by
    intro ds a vs hp h1 h2 e;subst e;cases m with
    |zero=>simp[aC] at hp
    | succ m =>
      obtain⟨its,rv,⟨o,k,e1,e2,e4,e3⟩,_⟩:=I.list h1;obtain⟨as,q⟩:=all m ds vs its (by simpa[aC] using hp) h2 rv
      exact{_,.list e1 e2 e3 (by simpa using q)}
   cases d with
   | cell k =>
     cases e:M[k]? with
     | none =>
       have ev:cw (n+1) M (.cell k)=.cell k:=by simp[cw,e]
       rw[ev] at hp;cases m<;>simp[aC] at hp
     | some ds =>
       have ev:cw (n+1) M (.cell k)=.lst (ds.map (cw n M)):=by simp[cw,e]
       rw[ev] at hp ⊢;obtain⟨a,vs,rfl,h1,h2⟩:=bS (ds:=ds) hM h e;exact lst ds a vs hp h1 h2 r
   | frz ds =>
     obtain⟨a,vs,rfl,h1,h2⟩:=bS (ds:=ds) hM h rfl;exact lst ds a vs hp h1 h2 r
   | lst ds =>
     obtain⟨a,vs,rfl,h1,h2⟩:=bS (ds:=ds) hM h rfl;exact lst ds a vs hp h1 h2 r
   | tup ds =>
     have hp:aC m (.tup (ds.map (cw n M)))=true:=hp;cases m with
     |zero=>simp[aC] at hp
     | succ m =>
       obtain⟨a,vs,rfl,h1,h2⟩:=h;obtain rfl:u=Value.ref a:=r;obtain⟨its,rv,⟨o,e1,e2,k,e3⟩,_⟩:=I.tuple h1;obtain⟨as,q⟩:=all m ds vs its (by simpa[aC] using hp) h2 rv
       exact{_,.tuple e1 e2 e3 (by simpa using q)}
   |non=>exact eQ I .non m v u hp h r
   |bl b=>exact eQ I (.bl b) m v u hp h r
   |int i=>exact eQ I (.int i) m v u hp h r
   |str x=>exact eQ I (.str x) m v u hp h r
   |fn f=>exact eQ I (.fn f) m v u hp h r
   |exc y p=>exact eQ I (.exc y p) m v u hp h r
abbrev Rm (X:Cx):Prop:=X.A.units+100<cLine
noncomputable def ip (fa:Fa)(K:OA)(o:kr):R2:=λx y H Q=>∃μ M dx dy b,RelM fa K μ H M/\Rep fa K μ H dx x/\Rep fa K μ H dy y/\br o dx dy M=some b/\Q (.bl b) H
def u5 {a b:D}{k:Bool}(hs:(iM a&&iM b)=false)(h:qg a b=some k):aC 64 a=true/\aC 64 b=true/\k=dJ a b:=by
 unfold qg at h;rw[hs,Bool.false_or] at h;split at h
 ·next q=>
  simp only[OB] at q;exact{q.1,q.2,(OG h).symm}
 ·cases h
def uS (d:D):iM (view M d)=iM d:=by
 cases d with
 |cell k=>cases e:M[k]?<;>simp[view,e,iM]
 |_=>rfl
def se (n:Nat)(d:D):iM (cw n M d)=iM d:=by
 cases n with
 |zero=>rfl
 | succ n =>
   cases d with
   |cell k=>cases e:M[k]?<;>simp[cw,e,iM]
   |_=>rfl
def sk (I:Inv X pins σ H s)(hM:RelM fa X.K μ H M){a b:D}{x y:V}{v u:Oz}{k:Bool}(hs:(iM a&&iM b)=false)(h:lI M a b=some k)(h1:Rep fa X.K μ H a x)(h2:Rep fa X.K μ H b y)(rx:RelV x v)(ry:RelV y u) :
 ∃c e as bs,aC 64 c=true/\aC 64 e=true/\k=dJ c e/\Reads s.heap v (toPy c) as/\Reads s.heap u (toPy e) bs:=by
 unfold lI at h;cases q:qg (view M a) (view M b) with
 | some r =>
   rw[q] at h;cases h;obtain⟨p1,p2,e⟩:=u5 (by rw[uS,uS];exact hs) q
   obtain⟨as,r1⟩:=lO I hM p1 h1 rx;obtain⟨bs,r2⟩:=lO I hM p2 h2 ry;exact{_,_,as,bs,p1,p2,e,r1,r2}
 | none =>
   rw[q] at h;obtain⟨p1,p2,e⟩:=u5 (by rw[se,se];exact hs) h
   obtain⟨as,r1⟩:=ja I hM 64 64 a x v p1 h1 rx;obtain⟨bs,r2⟩:=ja I hM 64 64 b y u p2 h2 ry;exact{_,_,as,bs,p1,p2,e,r1,r2}
def tX {a b:D}(h:(iM a&&iM b)=true):∃x y,a=.str x/\b=.str y:=by
 cases a with
 | str x =>
   cases b with
   |str y=>exact⟨x,y,rfl,rfl⟩
   |_=>cases h
 |_=>cases h
def qV {x y:Str}:lI M (.str x) (.str y)=some (x==y):=by
 have e:dJ (.str x) (.str y)=(x==y):=rfl;rw[<- e];rfl
def N9 (hu:Rm X):bV X (compareOp .Eq) (ip fa X.K .eq):=by
 intro pins s σ H x y v u Q I rx ry h;obtain⟨μ,M,dx,dy,b,hM,h1,h2,e,q⟩:=h;cases hs:iM dx&&iM dy with
 | true =>
   obtain⟨i,j,rfl,rfl⟩:=tX hs;obtain rfl:x=.str i:=h1;obtain rfl:y=.str j:=h2;obtain rfl:(i==j)=b:=OG (qV.symm.trans e);exact Lo pins s σ H _ _ v u Q I rx ry {rfl,by rw[nO];exact q}
 | false =>
   obtain⟨_,_,as,bs,p1,p2,rfl,r1,r2⟩:=sk I hM hs (show lI M dx dy=some b from e) h1 h2 rx ry;refine SeqAt.compareEq_shaped r1 r2 (kA p1) (kA p2) (by unfold Rm at hu;omega) ?_
   rw[nM 64 64 _ _ p1 p2];exact{.bl _,H,I,rfl,q}
def N3 (hu:Rm X):bV X (compareOp .NotEq) (ip fa X.K .ne):=by
 intro pins s σ H x y v u Q I rx ry h;obtain⟨μ,M,dx,dy,b,hM,h1,h2,e,q⟩:=h;have e:(lI M dx dy).map (!·)=some b:=e;cases e':lI M dx dy with
 |none=>rw[e'] at e;cases e
 | some k =>
   rw[e'] at e;obtain rfl:(!k)=b:=OG e;cases hs:iM dx&&iM dy with
   | true =>
     obtain⟨i,j,rfl,rfl⟩:=tX hs;obtain rfl:x=.str i:=h1;obtain rfl:y=.str j:=h2;obtain rfl:(i==j)=k:=OG (qV.symm.trans e');exact Lj pins s σ H _ _ v u Q I rx ry {rfl,by rw[nO];exact q}
   | false =>
     obtain⟨_,_,as,bs,p1,p2,rfl,r1,r2⟩:=sk I hM hs e' h1 h2 rx ry;refine SeqAt.compareNe_shaped r1 r2 (kA p1) (kA p2) (by unfold Rm at hu;omega) ?_
     rw[nM 64 64 _ _ p1 p2];exact{.bl _,H,I,rfl,q}
end
section
variable{fa:Fa}{X:Cx}{μ:Mu}{H:Hp}{σ:L2.St}{pins:List (Addr×Obj)}{s:OD}{M:Mem}
def jq {f:Oz->Oz->Sem Oz}{r r':R2}(h:bV X f r)(i:∀x y H Q,r' x y H Q->r x y H Q):bV X f r':=λpins s σ H x y v u Q I rx ry q=>h pins s σ H x y v u Q I rx ry (i x y H Q q)
def ml {f:Oz}{r r':List V->Hp->VK->Prop}(h:di X f r)(i:∀xs H Q,r' xs H Q->r xs H Q):di X f r':=λpins s σ H xs us Q I rx q=>h pins s σ H xs us Q I rx (i xs H Q q)
def nQ {o:kr}{g:Int->Int->Bool}(ho:o=.lt\/o=.le\/o=.gt\/o=.ge)(hg:∀i j,br o (.int i) (.int j) []=some (g i j)){x y:V}{Q:VK}(h:ip fa X.K o x y H Q) :
 ∃i j,x=.int i/\y=.int j/\Q (.bl (g i j)) H:=by
 obtain⟨μ,M,dx,dy,b,hM,h1,h2,e,q⟩:=h;have key:∀i j,dx=.int i->dy=.int j->∃i j,x=.int i/\y=.int j/\Q (.bl (g i j)) H:=λi j e1 e2=>by
  subst e1 e2;have e3:br o (.int i) (.int j) M=some (g i j):=by
   have:=hg i j;rcases ho with rfl|rfl|rfl|rfl<;>exact this
  rw[e] at e3;have e4:=OG e3;subst e4;exact⟨i,j,h1,h2,q⟩
 rcases ho with rfl|rfl|rfl|rfl<;>
 ·cases dx with
  |int i=>cases dy<;>first|exact key _ _ rfl rfl|cases e
  |_=>cases e
def N4:bV X (compareOp .Lt) (ip fa X.K .lt):=jq Lk λx y H Q h=>nQ (.inl rfl) (λ_ _=>rfl) h
def N5:bV X (compareOp .LtE) (ip fa X.K .le):=jq Ll λx y H Q h=>nQ (.inr (.inl rfl)) (λ_ _=>rfl) h
def N7:bV X (compareOp .Gt) (ip fa X.K .gt):=jq Lm λx y H Q h=>nQ (.inr (.inr (.inl rfl))) (λ_ _=>rfl) h
def N8:bV X (compareOp .GtE) (ip fa X.K .ge):=jq Ln λx y H Q h=>nQ (.inr (.inr (.inr rfl))) (λ_ _=>rfl) h
def wg {d:D}{v:V}{K:OA}(h:Rep fa K μ H d v):decide (v=.non)=kL d:=by
 cases d with
 |non=>obtain rfl:v=.non:=h;rfl
 |bl b=>obtain rfl:v=.bl b:=h;rfl
 |int b=>obtain rfl:v=.int b:=h;rfl
 |str b=>obtain rfl:v=.str b:=h;rfl
 |tup b=>obtain⟨a,vs,rfl,_⟩:=h;rfl
 |lst b=>obtain⟨a,vs,rfl,_⟩:=h;rfl
 |frz b=>obtain⟨a,vs,rfl,_⟩:=h;rfl
 |cell b=>obtain⟨a,rfl,_⟩:=h;rfl
 |fn b=>obtain⟨a,rfl,_⟩:=h;rfl
 |exc y p=>obtain⟨a,_,_,rfl,_⟩:=h;rfl
def L9:bV X (compareOp .Is) (ip fa X.K .isN):=jq IX λx y H Q h=>by
 obtain⟨μ,M,dx,dy,b,hM,h1,h2,e,q⟩:=h;cases dy<;>first|cases (show(none:Option Bool)=some b from e)|skip
 refine{h2,?_};rw[wg h1];have e:some (kL dx)=some b:=e;rw[OG e];exact q
def Kg:bV X (compareOp .IsNot) (ip fa X.K .notN):=jq F1 λx y H Q h=>by
 obtain⟨μ,M,dx,dy,b,hM,h1,h2,e,q⟩:=h;cases dy<;>first|cases (show(none:Option Bool)=some b from e)|skip
 refine{h2,?_};rw[wg h1];have e:some (!kL dx)=some b:=e;rw[OG e];exact q
def vC (x:D)(hx:aC 64 x=true):∀(ds:List D),ds.all (aC 63)=true->((bD ds).any λy=>PyData.eqv y (toPy x))=ds.any λy=>dJ y x
 |[],_=>rfl
 | d :: r, h => by
   simp only[PF,OB] at h;simp only[bD,List.any_cons,nM 63 64 d x h.1 hx,vC x hx r h.2]
def tO (n:Nat):∀ds:List D,ds.all (aC n)=true->PyData.canLayAll0 (bD ds)=true/\PyData.depthAll (bD ds)<=n
 |[],_=>by simp[bD,PyData.canLayAll0,PyData.depthAll]
 | d :: r, h => by
   simp only[PF,OB] at h;obtain⟨h1,h2⟩:=nj n d h.1;obtain⟨h3,h4⟩:=tO n r h.2;simp only[bD,PyData.canLayAll0,PyData.depthAll,h1,h3,Bool.and_self,true_and];omega
def zA (I:Inv X pins σ H s)(hM:RelM fa X.K μ H M){d:D}{v:V}{u:Oz}{ds:List D}(hp:ds.all (aC 63)=true)(h:Rep fa X.K μ H d v)(r:RelV v u)(e:cm M d=some ds) :
 (∃as,Reads s.heap u (.list (bD ds)) as)\/∃as,Reads s.heap u (.tuple (bD ds)) as:=by
 obtain⟨a,vs,rfl,h1,h2⟩:=j8 (ds:=ds) hM h e;obtain rfl:u=Value.ref a:=r;rcases h1 with h1|h1
 ·obtain⟨its,rv,⟨o,k,e1,e2,e4,e3⟩,_⟩:=I.list h1;obtain⟨as,q⟩:=gq I ds 63 vs its hp h2 rv;exact .inl {_,.list e1 e2 e3 (by simpa using q)}
 ·obtain⟨its,rv,⟨o,e1,e2,k,e3⟩,_⟩:=I.tuple h1;obtain⟨as,q⟩:=gq I ds 63 vs its hp h2 rv;exact .inr {_,.tuple e1 e2 e3 (by simpa using q)}
def Az (hu:Rm X){x y:V}{v u:Oz}{dx dy:D}{ds:List D}{b:Bool}{Q:Oz->OD->Prop}(I:Inv X pins σ H s)(hM:RelM fa X.K μ H M)(h1:Rep fa X.K μ H dx x)(h2:Rep fa X.K μ H dy y)(rx:RelV x v)(ry:RelV y u)
 (e1:cm M dy=some ds) (e2:iC (view M dx) ds=some b) (neg:Bool) (q:Q (.bool (if neg then !b else b)) s):wpAny (model X.prog X.w) X.A (compareOp (if neg then .NotIn else .In) v u) Q X.xe s:=by
 unfold iC at e2;split at e2
 ·next z=>
  simp only[OB] at z;obtain⟨p1,p2⟩:=z;have e3:=OG e2;subst e3;obtain⟨as,r1⟩:=lO I hM p1 h1 rx;obtain⟨c1,d1⟩:=nj 64 _ p1;obtain⟨c2,d2⟩:=tO 63 ds p2;have hu':X.A.units+1+min (PyData.depthAll (bD ds)) (toPy (view M dx)).depth<cLine:=by unfold Rm at hu;omega
  rw[<- vC _ p1 ds p2] at q;rcases zA I hM p2 h2 ry e1 with⟨bs,r2⟩|⟨bs,r2⟩
  ·cases neg
   ·exact SeqAt.in_list_reads r2 r1 c2 c1 hu' q
   ·exact SeqAt.notIn_list_reads r2 r1 c2 c1 hu' q
  ·cases neg
   ·exact SeqAt.in_tuple_reads r2 r1 c2 c1 hu' q
   ·exact SeqAt.notIn_tuple_reads r2 r1 c2 c1 hu' q
 ·cases e2
def N6 (hu:Rm X):bV X (compareOp .In) (ip fa X.K .isin):=by
 intro pins s σ H x y v u Q I rx ry h;obtain⟨μ,M,dx,dy,b,hM,h1,h2,e,q⟩:=h;have gen:(cm M dy).bind (iC (view M dx))=some b->wpAny (model X.prog X.w) X.A (compareOp .In v u) (EP X pins σ Q) X.xe s:=λe=>by
  cases e1:cm M dy with
  |none=>rw[e1] at e;cases e
  | some ds =>
    rw[e1] at e;exact Az hu I hM h1 h2 rx ry e1 e false {.bl b,H,I,rfl,q}
 by_cases hs:(∃a,dx=.str a)/\∃c,dy=.str c
 ·obtain⟨⟨a,rfl⟩,c,rfl⟩:=hs;have e:some (jZ a c)=some b:=e;have e':=OG e;subst e';exact zX pins s σ H x y v u Q I rx ry ⟨a,c,h1,h2,q⟩
 ·refine gen ?_;cases dx<;>first|exact e|(cases dy<;>first|exact e|exact absurd {{_,rfl},_,rfl} hs)
def G0 (hu:Rm X):bV X (compareOp .NotIn) (ip fa X.K .notin):=by
 intro pins s σ H x y v u Q I rx ry h;obtain⟨μ,M,dx,dy,b,hM,h1,h2,e,q⟩:=h;have gen:((cm M dy).bind (iC (view M dx))).map (!·)=some b->wpAny (model X.prog X.w) X.A (compareOp .NotIn v u) (EP X pins σ Q) X.xe s:=λe=>by
  cases e1:cm M dy with
  |none=>rw[e1] at e;cases e
  | some ds =>
    rw[e1] at e;cases e2:iC (view M dx) ds with
    |none=>rw[Qp,e2] at e;cases e
    | some k =>
      rw[Qp,e2] at e;have e':=OG e;subst e';exact Az hu I hM h1 h2 rx ry e1 e2 true {.bl _,H,I,rfl,q}
 by_cases hs:(∃a,dx=.str a)/\∃c,dy=.str c
 ·obtain⟨⟨a,rfl⟩,c,rfl⟩:=hs;have e:some (!jZ a c)=some b:=e;have e':=OG e;subst e';exact uy pins s σ H x y v u Q I rx ry ⟨a,c,h1,h2,q⟩
 ·refine gen ?_;cases dx<;>first|exact e|(cases dy<;>first|exact e|exact absurd {{_,rfl},_,rfl} hs)
noncomputable def fg:kr->CmpOp
 |.eq=>.Eq|.ne=>.NotEq|.lt=>.Lt|.le=>.LtE|.gt=>.Gt|.ge=>.GtE|.isN=>.Is|.notN=>.IsNot|.isin=>.In|.notin=>.NotIn
def nS (hu:Rm X):∀o:kr,bV X (compareOp (fg o)) (ip fa X.K o)
 |.eq=>N9 hu|.ne=>N3 hu|.lt=>N4|.le=>N5|.gt=>N7|.ge=>N8|.isN=>L9|.notN=>Kg|.isin=>N6 hu|.notin=>G0 hu
noncomputable def mH (fa:Fa)(K:OA)(m:Bool)(o:mz):R2:=λx y H Q=>∃μ M dx dy,RelM fa K μ H M/\Rep fa K μ H dx x/\Rep fa K μ H dy y/\ai (fY m o dx dy M) (bg fa K μ H Q)
def ba {Q:VK}{d:D}{v:V}(hM:RelM fa X.K μ H M)(h:bg fa X.K μ H Q d M)(r:Rep fa X.K μ H d v):Q v H:=h v H μ .refl hM r
def gV {Q:VK}{m:Bool}{ds:List D}{vs:List V}(hM:RelM fa X.K μ H M)(r:aR fa X.K μ H ds vs)(h:ai (bE m ds M) (bg fa X.K μ H Q)):ds.length<=sz/\∀p,H p=none->Q (.ref p) (upd H p (.lst vs)):=by
 unfold bE at h;split at h
 ·next hz=>
  refine{hz,λp hp=>?_};cases m with
  | true =>
    have h:bg fa X.K μ H Q (.cell M.length) (M++[ds]):=h;exact h (.ref p) _ (gu μ M.length p) (Ext.cell hM hp) (hM.cell hp r) {p,rfl,by simp[gu]}
  | false =>
    have h:bg fa X.K μ H Q (.lst ds) M:=h;exact h (.ref p) _ μ (Ext.alloc hM hp) (hM.alloc hp) {p,vs,rfl,{bW,hM.fresh hp},r.ext (Ext.alloc hM hp)}
 ·exact h.elim
def gU {Q:VK}{ds:List D}{vs:List V}(hM:RelM fa X.K μ H M)(r:aR fa X.K μ H ds vs)(h:bg fa X.K μ H Q (.tup ds) M):∀p,H p=none->Q (.ref p) (upd H p (.tup vs)):=λp hp=>
 h (.ref p) _ μ (Ext.alloc hM hp) (hM.alloc hp) {p,vs,rfl,.of bW,r.ext (Ext.alloc hM hp)}
def dN:sz=sizeLine:=by rw[sizeLine_eq];rfl
def Cd:bV X (binaryOp .Add) (λx y H Q=>∃a b ys,x=.ref a/\y=.ref b/\dQ X.K H a []/\dQ X.K H b ys/\Q (.ref b) H):=by
 intro pins s σ H x y v u Q I rx ry h;obtain⟨a,b,ys,rfl,rfl,ha,hb,q⟩:=h;cases rx;cases ry;obtain⟨its,r1,p1,_⟩:=I.tuple ha;obtain⟨its2,r2,p2,_⟩:=I.tuple hb;cases r1;obtain⟨⟨cls,dd,data,sl⟩,ho,hc,n,hd⟩:=id p1;obtain⟨⟨cls2,dd2,data2,sl2⟩,ho2,hc2,n2,hd2⟩:=id p2;simp only at hc hd hc2 hd2;subst hc hd hc2 hd2;exact concat_meets {_,ho,rfl} {_,ho2,rfl} noFill_tuple_add seq_tuple_add PySem.F.slot_tuple_add PySem.F.entry_tuple_add (PySem.F.args_tuple_add_2 _ _)
  (tuple_addW0 a b #[] its2.toArray n n2 dd dd2 sl sl2 rfl) {ho,ho2,{.ref b,H,I,rfl,q}}
def C7 {m:Bool}{x y:V}{v u:Oz}{dx dy:D}{Q:VK}(I:Inv X pins σ H s)(hM:RelM fa X.K μ H M)(h1:Rep fa X.K μ H dx x)(h2:Rep fa X.K μ H dy y)(rx:RelV x v)(ry:RelV y u)
 (h:ai (match kc M dx,kc M dy with|some x,some y=>bE m (x++y) M|_,_=>.bad) (bg fa X.K μ H Q)):wpAny (model X.prog X.w) X.A (binaryOp .Add v u) (EP X pins σ Q) X.xe s:=by
 cases e1:kc M dx with
 |none=>rw[e1] at h;exact h.elim
 | some xs =>
   cases e2:kc M dy with
   |none=>rw[e1,e2] at h;exact h.elim
   | some ys =>
     rw[e1,e2] at h;obtain⟨a,vs,rfl,ha,ra⟩:=j9 hM h1 e1;obtain⟨b,ws,rfl,hb,rb⟩:=j9 hM h2 e2;obtain⟨hz,k⟩:=gV hM (ra.append rb) h;refine IY pins s σ H _ _ v u Q I rx ry {a,b,vs,ws,rfl,rfl,ha,hb,?_,k};rw[ra.length,rb.length,<- Pz,<- dN];exact hz
def Mf (m:Bool):bV X (binaryOp .Add) (mH fa X.K m .add):=by
 intro pins s σ H x y v u Q I rx ry h;obtain⟨μ,M,dx,dy,hM,h1,h2,h⟩:=h;have hi:∀i j,dx=.int i->dy=.int j->wpAny (model X.prog X.w) X.A (binaryOp .Add v u) (EP X pins σ Q) X.xe s:=λi j e1 e2=>by
  subst e1 e2;exact IZ pins s σ H x y v u Q I rx ry {i,j,h1,h2,ba (v:=.int (i+j)) hM h rfl}
 have hs:∀i j,dx=.str i->dy=.str j->wpAny (model X.prog X.w) X.A (binaryOp .Add v u) (EP X pins σ Q) X.xe s:=λi j e1 e2=>by
  subst e1 e2;have h:ai (if i.cps.size+j.cps.size<=sz then .ok (.str {i.cps++j.cps}) M else .bad) (bg fa X.K μ H Q):=h;split at h
  ·next hz=>exact xE pins s σ H x y v u Q I rx ry {i,j,h1,h2,by rw[<- dN];exact hz,ba (v:=.str {i.cps++j.cps}) hM h rfl}
  ·exact h.elim
 have ht:∀i j,dx=.tup i->dy=.tup j->wpAny (model X.prog X.w) X.A (binaryOp .Add v u) (EP X pins σ Q) X.xe s:=λi j e1 e2=>by
  subst e1 e2;have h:ai (if (i++j).length<=sz then .ok (.tup (i++j)) M else .bad) (bg fa X.K μ H Q):=h;split at h
  ·next hz=>
   have h:bg fa X.K μ H Q (.tup (i++j)) M:=h;obtain⟨a,vs,e1,ha,ra⟩:=id h1;obtain⟨b,ws,e2,hb,rb⟩:=id h2;by_cases h0:i=[]
   ·subst h0;obtain rfl:vs=[]:=ra;exact Cd pins s σ H x y v u Q I rx ry {a,b,ws,e1,e2,ha,hb,ba hM h ⟨b,ws,rfl,hb,rb⟩}
   ·have hv:vs≠[]:=λz=>h0 (by have:=ra.length;rw[z] at this;exact List.length_eq_zero_iff.mp this.symm)
    refine F3 pins s σ H x y v u Q I rx ry {a,b,vs,ws,e1,e2,ha,hb,hv,?_,λz=>?_,λ_=>gU hM (ra.append rb) h}
    ·rw[ra.length,rb.length,<- Pz,<- dN];exact hz
    ·subst z;have ej:j=[]:=List.length_eq_zero_iff.mp rb.length.symm;subst ej;exact ba hM h {a,vs,rfl,ha,by simpa using ra}
  ·exact h.elim
 cases dx<;>cases dy<;>first|exact hi _ _ rfl rfl|exact hs _ _ rfl rfl|exact ht _ _ rfl rfl|exact C7 (m:=m) I hM h1 h2 rx ry h
def tq {op:Operator}{o:mz}{m:Bool}{C:Int->Int->Prop}{g:Int->Int->Int}(hr:bV X (binaryOp op) (rI C λi j=>.int (g i j)))
 (hD:∀dx dy M (P:D->Mem->Prop),ai (fY m o dx dy M) P->∃i j,dx=.int i/\dy=.int j/\C i j/\P (.int (g i j)) M):bV X (binaryOp op) (mH fa X.K m o):=jq hr λx y H Q h=>by
 obtain⟨μ,M,dx,dy,hM,h1,h2,h⟩:=h;obtain⟨i,j,rfl,rfl,c,q⟩:=hD dx dy M _ h;exact{i,j,h1,h2,c,ba (v:=.int (g i j)) hM q rfl}
def Ma (m:Bool):bV X (binaryOp .Sub) (mH fa X.K m .sub):=tq (C:=λ_ _=>True) (g:=λi j=>i-j) (jq IS λx y H Q ⟨i,j,e1,e2,_,q⟩=>⟨i,j,e1,e2,q⟩) λdx dy M P h=>by
 cases dx<;>cases dy<;>first|exact{_,_,rfl,rfl,trivial,h}|exact h.elim
def Kj (m:Bool):bV X (binaryOp .FloorDiv) (mH fa X.K m .fdiv):=tq F2 λdx dy M P h=>by
 have key:∀i j,dx=.int i->dy=.int j->∃i j,dx=.int i/\dy=.int j/\Kz i j/\P (.int (i / j)) M:=λi j e1 e2=>by
  subst e1 e2;have h:ai (if 0<j/\j<1073741824 then .ok (.int (i / j)) M else .bad) P:=h;split at h
  ·next c=>exact⟨i,j,rfl,rfl,c,h⟩
  ·exact h.elim
 cases dx<;>cases dy<;>first|exact key _ _ rfl rfl|exact h.elim
def Md (m:Bool):bV X (binaryOp .Mod) (mH fa X.K m .mod):=tq IW λdx dy M P h=>by
 have key:∀i j,dx=.int i->dy=.int j->∃i j,dx=.int i/\dy=.int j/\0<j/\P (.int (i % j)) M:=λi j e1 e2=>by
  subst e1 e2;have h:ai (if 0<j then .ok (.int (i % j)) M else .bad) P:=h;split at h
  ·next c=>exact⟨i,j,rfl,rfl,c,h⟩
  ·exact h.elim
 cases dx<;>cases dy<;>first|exact key _ _ rfl rfl|exact h.elim
def Mb (m:Bool):bV X (binaryOp .Pow) (mH fa X.K m .pow):=tq IU λdx dy M P h=>by
 have key:∀i j,dx=.int i->dy=.int j->∃i j,dx=.int i/\dy=.int j/\Ky i j/\P (.int (i^j.toNat)) M:=λi j e1 e2=>by
  subst e1 e2;have h:ai (if 0<=j/\j<=1000000/\i.natAbs<2^64 then .ok (.int (i^j.toNat)) M else .bad) P:=h;split at h
  ·next c=>exact⟨i,j,rfl,rfl,c,h⟩
  ·exact h.elim
 cases dx<;>cases dy<;>first|exact key _ _ rfl rfl|exact h.elim
def B1 {m:Bool}{x y:V}{v u:Oz}{dx:D}{j:Int}{Q:VK}(I:Inv X pins σ H s)(hM:RelM fa X.K μ H M)(h1:Rep fa X.K μ H dx x)(h2:Rep fa X.K μ H (.int j) y)(rx:RelV x v)(ry:RelV y u)
 (h:ai (match kc M dx with|some x=>if x.length*j.toNat<=sz/\-(2^63)<=j/\j<2^63 then bE m (List.replicate j.toNat x).flatten M else .bad|none=>.bad) (bg fa X.K μ H Q)) :
 wpAny (model X.prog X.w) X.A (binaryOp .Mult v u) (EP X pins σ Q) X.xe s:=by
 cases e1:kc M dx with
 |none=>rw[e1] at h;exact h.elim
 | some xs =>
   rw[e1] at h;simp only at h;split at h
   ·next c=>
    obtain⟨a,vs,rfl,ha,ra⟩:=j9 hM h1 e1;obtain⟨hz,k⟩:=gV hM (ra.rep j.toNat) h;exact IT pins s σ H _ _ v u Q I rx ry {a,j,vs,rfl,h2,ha,c.2.1,c.2.2,by rw[ra.length,<- dN];exact c.1,k}
   ·exact h.elim
end
end LD
namespace LD
open PySem PySem.Spec PyProof.Rows L2 PySem.Builtin
open PySem.Sem (wp)
def oJ:fillsNumberSlot (.type "tuple") "mul"=pure false:=
 PySem.fillsNumberSlot_seq (id:="tuple.__mul__") (r:=some (.builtin "tuple.__rmul__")) F.slot_tuple_mul.lookup `k F.slot_tuple_rmul.lookup `k
def ui:seqRepeat? (.type "tuple")=pure (some (.builtin "tuple.__mul__")):=by
 unfold seqRepeat?;rw[PySem.seqSlot_of (T:="tuple") (name:="__mul__") (id:="tuple.__mul__") F.slot_tuple_mul.lookup `k,PySem.seqSlot_of (T:="tuple") (name:="__rmul__") (id:="tuple.__rmul__") F.slot_tuple_rmul.lookup `k]
 rfl
def qz (a:Int)(t:Tok)(l:Addr)(items:Array Oz)(n:Nat)(dd:Option Addr)(sl:Array (Option Oz)) :
 Meets (Builtin.«int.__rmul__» {[.int a t,.ref l],[]}) (λ_ R s=>s.heap.get? l=some {cls:=.type "tuple",dict:=dd,data:=.seq items n,slots:=sl}/\R (.ok (.ret Value.notImplemented)) s):=
 .of_wp λprog w A R s h=>by obtain⟨hp,g,d,tk,os⟩:=s;obtain⟨hl,h⟩:=h;wp_walk using wpAny_loadPart' hl;exact{_,rfl,h}
def xD {x:Int}(h0:-(2^63)<=x)(h1:x<2^63):(decide (x < -2^63)||decide (x≥2^63))=false:=by
 rw[decide_eq_false `a,decide_eq_false `a];rfl
def qJ (l:Addr)(items:Array Oz)(n:Nat)(dd:Option Addr)(sl:Array (Option Oz))(x:Int)(u:Tok)(h0:-(2^63)<=x)(h1:x<2^63)(hc:(items.isEmpty||x==1)=true) :
 Meets (Builtin.«tuple.__mul__» {[.ref l,.int x u],[]}) (λ_ R s=>s.heap.get? l=some {cls:=.type "tuple",dict:=dd,data:=.seq items n,slots:=sl}/\R (.ok (.ret (.ref l))) s):=
 .of_wp λprog w A R s h=>by
  obtain⟨hp,g,d,tk,os⟩:=s;obtain⟨hl,h⟩:=h;have f1:=AutoSeq1.idx_int;wp_walk using wpAny_loadPart' hl
  refine wpAny_ite_false (by rw[xD h0 h1];rfl) ?_
  wp_walk using wpAny_loadPart' hl
  exact{_,rfl,h}
def qK (l:Addr)(items:Array Oz)(n:Nat)(dd:Option Addr)(sl:Array (Option Oz))(x:Int)(u:Tok)(h0:-(2^63)<=x)(h1:x<2^63)(hc:(items.isEmpty||x==1)=false)(hc1:(decide (x<=0)||items.isEmpty)=true) :
 Meets (Builtin.«tuple.__mul__» {[.ref l,.int x u],[]}) (λ_ R s=>s.heap.get? l=some {cls:=.type "tuple",dict:=dd,data:=.seq items n,slots:=sl}/\R (.ok (.ret (.ref s.heap.objs.size))) {s with heap:=s.heap.push {cls:=Value.type "tuple",data:=Data.seq #[]},toks:=s.toks}):=
 .of_wp λprog w A R s h=>by
  obtain⟨hp,g,d,tk,os⟩:=s;obtain⟨hl,h⟩:=h;have f1:=AutoSeq1.idx_int;wp_walk using wpAny_loadPart' hl
  refine wpAny_ite_false (by rw[xD h0 h1];rfl) ?_
  wp_walk using wpAny_loadPart' hl
  exact{_,rfl,h}
def qL (l:Addr)(items:Array Oz)(n:Nat)(dd:Option Addr)(sl:Array (Option Oz))(x:Int)(u:Tok)(h0:-(2^63)<=x)(h1:x<2^63)(hc:(items.isEmpty||x==1)=false)(hc1:(decide (x<=0)||items.isEmpty)=false)
 (hs:(items.size:Int)*x<=16777216) (hs2:(List.foldl (λx1 x2=>x1++x2) #[] (List.replicate x.toNat items)).size<=sizeLine) :
 Meets (Builtin.«tuple.__mul__» {[.ref l,.int x u],[]}) (λ_ R s=>s.heap.get? l=some {cls:=.type "tuple",dict:=dd,data:=.seq items n,slots:=sl}/\R (.ok (.ret (.ref s.heap.objs.size))) {s with heap:=s.heap.push {cls:=Value.type "tuple",data:=Data.seq (List.foldl (λx1 x2=>x1++x2) #[] (List.replicate x.toNat items))},toks:=s.toks}):=
 .of_wp λprog w A R s h=>by
  obtain⟨hp,g,d,tk,os⟩:=s;obtain⟨hl,h⟩:=h;have f1:=AutoSeq1.idx_int;wp_walk using wpAny_loadPart' hl
  refine wpAny_ite_false (by rw[xD h0 h1];rfl) ?_
  wp_walk using wpAny_loadPart' hl
  refine wpAny_ite_false (decide_eq_false `a) ?_
  wp_walk using wpAny_loadPart' hl
  refine wpAny_ite_false (decide_eq_false (by unfold Tuple.tupleTooMany;rw[sizeLine_eq];simp;omega)) ?_
  wp_walk using wpAny_loadPart' hl
  exact{_,rfl,h}
section
variable{fa:Fa}{X:Cx}{μ:Mu}{H:Hp}{σ:L2.St}{pins:List (Addr×Obj)}{s:OD}{M:Mem}
def rS (its:List Oz)(m:Nat):List.foldl (λx1 x2=>x1++x2) #[] (List.replicate m its.toArray)=(List.replicate m its).flatten.toArray:=by
 have:=foldl_rep its m [];rw[Qg] at this;exact this
def FZ:bV X (binaryOp .Mult) (λx y H Q=>∃l k xs,x=.ref l/\y=.int k/\dQ X.K H l xs/\-(2^63)<=k/\k<2^63/\xs.length*k.toNat<=sz/\
 ((List.replicate k.toNat xs).flatten=xs->Q (.ref l) H)/\∀p,H p=none->Q (.ref p) (upd H p (.tup (List.replicate k.toNat xs).flatten))):=by
 intro pins s σ H x y v u Q I rx ry h;obtain⟨l,k,xs,rfl,rfl,hq,h1,h2,hz,q1,q2⟩:=h;cases rx;obtain⟨t,rfl⟩:=ry;obtain⟨its,r,p,hzz⟩:=I.tuple hq;have hl:=r.length;obtain⟨⟨cls,dd,data,sl⟩,ho,hc,n,hd⟩:=id p;simp only at hc hd;subst hc hd;refine wpAny_binaryOp_repeat_ref (T:="tuple") (U:="int") `d {_,ho,rfl} (λs'=>typeIs_int s' k t) oJ F.fills_int_mul F.slot_int_rmul ui F.slot_int_index.lookup
  (call_meets F.slot_int_rmul (typeIs_int s k t) F.entry_int_rmul (F.args_int_rmul_2 _ _) (qz k t l its.toArray n dd sl) {ho,rfl,{_,ho,rfl},?_})
 have new:∀(its':List Oz),Vals (List.replicate k.toNat xs).flatten its'->EP X pins σ Q (.ref s.heap.objs.size) {s with heap:=s.heap.push {cls:=Value.type "tuple",data:=Data.seq its'.toArray}}:=λits' r'=>by
  refine{.ref s.heap.objs.size,_,I.laid (t':=s.toks) (o:=.tup (List.replicate k.toNat xs).flatten) (λb ob q=>OE _ q) (OF _) ?_,rfl,q2 _ (I.hok.fresh (OF _))};exact{by rw[len_rep,Nat.mul_comm,<- dN];exact hz,_,r',IsTup.new _ _}
 by_cases c1:(its.toArray.isEmpty||k==1)=true
 ·refine call_meets F.slot_tuple_mul {_,ho,rfl} F.entry_tuple_mul (F.args_tuple_mul_2 _ _) (qJ l its.toArray n dd sl k t h1 h2 c1) {ho,{.ref l,H,I,rfl,q1 ?_}};rcases Bool.or_eq_true_iff.mp c1 with z|z
  ·have e:its=[]:=by simpa using z
   subst e;have e2:xs=[]:=List.length_eq_zero_iff.mp hl;subst e2;simp
  ·have e:k=1:=by simpa using z
   subst e;simp
 ·have c1':(its.toArray.isEmpty||k==1)=false:=by simpa using c1
  by_cases c2:(decide (k<=0)||its.toArray.isEmpty)=true
  ·refine call_meets F.slot_tuple_mul {_,ho,rfl} F.entry_tuple_mul (F.args_tuple_mul_2 _ _) (qK l its.toArray n dd sl k t h1 h2 c1' c2) {ho,new [] ?_};have hk:k<=0:=by
    rcases Bool.or_eq_true_iff.mp c2 with z|z
    ·simpa using z
    ·rw[z] at c1';cases c1'
   have hk0:k.toNat=0:=`a
   rw[hk0];exact .nil
  ·have c2':(decide (k<=0)||its.toArray.isEmpty)=false:=by simpa using c2
   have hk:0<k:=by
    have:=(Bool.or_eq_false_iff.mp c2').1;simpa using this
   have hs:(its.toArray.size:Int)*k<=16777216:=by
    have e1:(its.toArray.size:Int)*k=((xs.length*k.toNat:Nat):Int):=by
     rw[OH,<- hl,Int.natCast_mul,QF `a]
    rw[e1];have:xs.length*k.toNat<=16777216:=hz;omega
   have hs2:(List.foldl (λx1 x2=>x1++x2) #[] (List.replicate k.toNat its.toArray)).size<=sizeLine:=by
    rw[rS,OH,len_rep,Nat.mul_comm,<- hl,<- dN];exact hz
   refine call_meets F.slot_tuple_mul {_,ho,rfl} F.entry_tuple_mul (F.args_tuple_mul_2 _ _) (qL l its.toArray n dd sl k t h1 h2 c1' c2' hs hs2) {ho,?_};rw[rS];exact new _ (r.rep k.toNat)
def Mc (m:Bool):bV X (binaryOp .Mult) (mH fa X.K m .mul):=by
 intro pins s σ H x y v u Q I rx ry h;obtain⟨μ,M,dx,dy,hM,h1,h2,h⟩:=h;have hi:∀i j,dx=.int i->dy=.int j->wpAny (model X.prog X.w) X.A (binaryOp .Mult v u) (EP X pins σ Q) X.xe s:=λi j e1 e2=>by
  subst e1 e2;have h:ai (if (-(2^64)<i/\i<2^64)\/(-(2^64)<j/\j<2^64) then .ok (.int (i*j)) M else .bad) (bg fa X.K μ H Q):=h;split at h
  ·next c=>exact IV pins s σ H x y v u Q I rx ry {i,j,h1,h2,c,ba (v:=.int (i*j)) hM h rfl}
  ·exact h.elim
 have ht:∀i j,dx=.tup i->dy=.int j->wpAny (model X.prog X.w) X.A (binaryOp .Mult v u) (EP X pins σ Q) X.xe s:=λi j e1 e2=>by
  subst e1 e2;have h:ai (if i.length*j.toNat<=sz/\-(2^63)<=j/\j<2^63 then .ok (.tup (List.replicate j.toNat i).flatten) M else .bad) (bg fa X.K μ H Q):=h;split at h
  ·next c=>
   have h:bg fa X.K μ H Q (.tup (List.replicate j.toNat i).flatten) M:=h;obtain⟨a,vs,e1,ha,ra⟩:=id h1;refine FZ pins s σ H x y v u Q I rx ry {a,j,vs,e1,h2,ha,c.2.1,c.2.2,by rw[ra.length];exact c.1,λz=>?_,gU hM (ra.rep j.toNat) h}
   refine ba hM h {a,vs,rfl,ha,?_};have:=ra.rep j.toNat;rw[z] at this;exact this
  ·exact h.elim
 have hl:∀j,dy=.int j->ai (match kc M dx with|some x=>if x.length*j.toNat<=sz/\-(2^63)<=j/\j<2^63 then bE m (List.replicate j.toNat x).flatten M else .bad|none=>.bad) (bg fa X.K μ H Q)->
  wpAny (model X.prog X.w) X.A (binaryOp .Mult v u) (EP X pins σ Q) X.xe s:=λj e1 h'=>by
  subst e1;exact B1 (m:=m) I hM h1 h2 rx ry h'
 cases dy with
 |int j=>cases dx<;>first|exact hi _ _ rfl rfl|exact ht _ _ rfl rfl|exact hl _ rfl h
 |_=>cases dx<;>exact h.elim
noncomputable def binOp:mz->Operator
 |.add=>.Add|.sub=>.Sub|.mul=>.Mult|.fdiv=>.FloorDiv|.mod=>.Mod|.pow=>.Pow
def Me (m:Bool):∀o:mz,bV X (binaryOp (binOp o)) (mH fa X.K m o)
 |.add=>Mf m|.sub=>Ma m|.mul=>Mc m|.fdiv=>Kj m|.mod=>Md m|.pow=>Mb m
end
end LD
namespace LD
open PySem PySem.Spec PyProof.Rows L2
section
variable{fa:Fa}{X:Cx}{μ:Mu}{H:Hp}{σ:L2.St}{pins:List (Addr×Obj)}{s:OD}{M:Mem}
def JG {r r':R2}(h:lL X r)(i:∀x y H Q,r' x y H Q->r x y H Q):lL X r':=λvalue slice pins s σ H x y v u Q I rx ry q hs=>h value slice pins s σ H x y v u Q I rx ry (i x y H Q q) hs
noncomputable def rIdx (fa:Fa)(K:OA):R2:=λx y H Q=>∃μ M dx dy d,RelM fa K μ H M/\Rep fa K μ H dx x/\Rep fa K μ H dy y/\bZ dx dy M=some d/\bg fa K μ H Q d M
def uQ (n:Nat)(i:Int):LD.bw n i=L2.bw n i:=rfl
def Lu:lL X (rIdx fa X.K):=JG JF λx y H Q h=>by
 obtain⟨μ,M,dx,dy,d,hM,h1,h2,e,q⟩:=h;have gen:∀i,dy=.int i->((cm M dx).bind λds=>(LD.bw ds.length i).bind λj=>ds[j]?)=some d->Im X.K x y H Q:=λi e0 e'=>by
  subst e0;clear e;have e:=e';clear e';cases e1:cm M dx with
  |none=>rw[e1] at e;cases e
  | some ds =>
    rw[e1,Qp] at e;obtain⟨a,vs,rfl,hq,r⟩:=j8 hM h1 e1;cases e2:LD.bw ds.length i with
    |none=>rw[e2] at e;cases e
    | some j =>
      rw[e2,Qp] at e;obtain⟨v,hv,rv⟩:=r.get e;have he:sJ vs i=some v:=by
       unfold sJ;rw[r.length,<- uQ,e2];exact hv
      rcases hq with hq|hq
      ·exact .inl {a,vs,i,v,rfl,h2,hq,he,ba hM q rv}
      ·exact .inr (.inl {a,vs,i,v,rfl,h2,hq,he,ba hM q rv})
 have str:∀z i,dx=.str z->dy=.int i->Im X.K x y H Q:=λz i e1 e2=>by
  subst e1 e2;have e:(if z.cps.size<=sz then(LD.bw z.cps.size i).bind λj=>(z.cps[j]?).map λc=>D.str {#[c]} else none)=some d:=e;split at e
  ·next hz=>
   cases e2:LD.bw z.cps.size i with
   |none=>rw[e2] at e;cases e
   | some j =>
     rw[e2,Qp] at e;cases e3:z.cps[j]? with
     |none=>rw[e3] at e;cases e
     | some c =>
       rw[e3] at e;have e4:D.str {#[c]}=d:=OG e;subst e4;refine .inr (.inr {z,i,c,h1,h2,by rw[<- dN];exact hz,?_,ba hM q rfl})
       unfold sJ;rw[show z.cps.toList.length=z.cps.size by simp,<- uQ,e2]
       simpa using e3
  ·cases e
 cases dy with
 |int i=>cases dx<;>first|exact str _ _ rfl rfl|exact gen _ rfl e
 |_=>cases dx<;>cases (show(none:Option D)=some d from e)
def HI {r r':V->Option Int->Option Int->Hp->VK->Prop}(h:mx X r)(i:∀x lo hi H Q,r' x lo hi H Q->r x lo hi H Q):mx X r':=λpins s σ H x v vl vu lo hi sl Q I rx hs pl pu q=>h pins s σ H x v vl vu lo hi sl Q I rx hs pl pu (i x lo hi H Q q)
noncomputable def pL:D->Option (Option Int)
 |.non=>some none
 |.int i=>some (some i)
 |_=>none
def oz (n d:Nat)(x:D):LD.aS n d x=(pL x).map (HT.aS n d):=by
 cases x<;>rfl
def ue:mx X (λx lo hi H Q=>∃a xs,x=.ref a/\dQ X.K H a xs/\(HT.aS xs.length 0 lo=0/\HT.aS xs.length xs.length hi=xs.length)/\Q (.ref a) H):=by
 intro pins s σ H x v vl vu lo hi sl Q I rx hs pl pu h;obtain⟨a,xs,rfl,hx,hw,q⟩:=h;cases rx;obtain⟨its,r,ht,hz⟩:=I.tuple hx;refine{"tuple",_,O8.lookup,ht.typeIs,?_};have hlen:its.toArray.size=xs.length:=by rw[OH];exact r.length.symm
 rw[<- hlen] at hw;obtain⟨os,hos,hcs,hds⟩:=id hs;have hTs:s.TypeIs (.ref sl) "slice":=⟨os,hos,hcs⟩;unfold getItem;try with_reducible refine tqo ?_
 first|refine tqa (tqb ?_)|skip
 refine tqa (wpAny_sequenceKey ht.typeIs `d ?_)
 refine tqa (wpAny_callSpecial?_slot (name:=Str.ofString "__getitem__") ht.typeIs O8
  (wpAny_call_entry O8 ht.typeIs entry_tuple_getitem ?_ (args_tuple_getitem _ _)))
 show wpAny _ _ (Builtin.Tuple.tupleItemsOf (.ref a) >>= _) _ _ s;refine tqa (tupleItemsOf_ ht ?_);refine tqa (wpAny_typeOf hTs ?_);rw[if_pos `d]
 refine tqa (HT.j0 hs pl pu ?_);have hyes:(((HT.aS its.toArray.size 0 lo:Nat):Int)==0&&(1:Int)==1&&(HT.aS its.toArray.size its.toArray.size hi-HT.aS its.toArray.size 0 lo)==its.toArray.size)=true:=by
  rw[hw.1,hw.2];simp
 show wpAny _ _ (if (((HT.aS its.toArray.size 0 lo:Nat):Int)==0&&(1:Int)==1&&(HT.aS its.toArray.size its.toArray.size hi-HT.aS its.toArray.size 0 lo)==its.toArray.size)=true then _ else _) _ _ s;rw[if_pos hyes];refine tqa (m:=Builtin.Tuple.tupleIsExact (.ref a)) ?_;unfold Builtin.Tuple.tupleIsExact;refine tqa (wpAny_typeOf ht.typeIs ?_);refine tqb ?_;rw[if_pos `d]
 exact tqa (wpAny_rule (tqb {_,rfl,tqb {.ref a,H,I,rfl,q}}))
noncomputable def Np (fa:Fa)(K:OA)(m:Bool):V->Option Int->Option Int->Hp->VK->Prop:=λx lo hi H Q=>∃μ M dx dl dh,RelM fa K μ H M/\Rep fa K μ H dx x/\pL dl=some lo/\pL dh=some hi/\ai (fq m dx dl dh M) (bg fa K μ H Q)
def Fs (m:Bool):mx X (Np fa X.K m):=by
 refine HI (Ft.or (HG.or ue)) λx lo hi H Q h=>?_;obtain⟨μ,M,dx,dl,dh,hM,h1,e1,e2,h⟩:=h;have gen:ai (match fZ M dx with
  | some xs => match LD.aS xs.length 0 dl, LD.aS xs.length xs.length dh with
    |some l,some h=>bE m (cut xs l h) M
    |_,_=>.bad
  |none=>.bad) (bg fa X.K μ H Q)->Ih X.K x lo hi H Q:=λh=>by
  cases e:fZ M dx with
  |none=>rw[e] at h;exact h.elim
  | some xs =>
    rw[e] at h;simp only[oz,e1,e2,Option.map_some] at h;obtain⟨a,vs,rfl,hq,r⟩:=bS hM h1 e;have hl:=r.length;obtain⟨_,k⟩:=gV hM ((r.drop (HT.aS xs.length 0 lo)).take (HT.aS xs.length xs.length hi-HT.aS xs.length 0 lo)) h;refine{a,vs,rfl,hq,?_};unfold mX;rw[hl];exact k
 have tup:∀xs,dx=.tup xs->Ig X.K x lo hi H Q\/∃a xs,x=.ref a/\dQ X.K H a xs/\(HT.aS xs.length 0 lo=0/\HT.aS xs.length xs.length hi=xs.length)/\Q (.ref a) H:=λxs e=>by
  subst e;have h:ai (match LD.aS xs.length 0 dl,LD.aS xs.length xs.length dh with
   |some l,some h=>.ok (.tup (cut xs l h)) M
   |_,_=>.bad) (bg fa X.K μ H Q):=h
  simp only[oz,e1,e2,Option.map_some] at h;have h:bg fa X.K μ H Q (.tup (cut xs (HT.aS xs.length 0 lo) (HT.aS xs.length xs.length hi))) M:=h;obtain⟨a,vs,rfl,hq,r⟩:=h1;have hl:=r.length;by_cases hw:HT.aS vs.length 0 lo=0/\HT.aS vs.length vs.length hi=vs.length
  ·refine .inr {a,vs,rfl,hq,hw,?_};rw[hl] at hw;have e3:cut xs (HT.aS xs.length 0 lo) (HT.aS xs.length xs.length hi)=xs:=by rw[hw.1,hw.2];simp[cut]
   rw[e3] at h;exact ba hM h ⟨a,vs,rfl,hq,r⟩
  ·refine .inl {a,vs,rfl,hq,hw,?_};have k:=gU hM ((r.drop (HT.aS xs.length 0 lo)).take (HT.aS xs.length xs.length hi-HT.aS xs.length 0 lo)) h;unfold mX;rw[hl];exact k
 cases dx<;>first|exact .inr (tup _ rfl)|exact .inl (gen h)
noncomputable def qC (fa:Fa)(K:OA)(f:xb):List V->Hp->VK->Prop:=λvs H Q=>∃μ M ds,RelM fa K μ H M/\aR fa K μ H ds vs/\ai (eY f ds M) (bg fa K μ H Q)
def pG {d:D}{vs:List V}{K:OA}(h:aR fa K μ H [d] vs):∃v,vs=[v]/\Rep fa K μ H d v:=by
 obtain⟨v,r,rfl,h1,h2⟩:=h;obtain rfl:r=[]:=h2;exact⟨v,rfl,h1⟩
def LA:di X (.builtin "len") (qC fa X.K .len):=ml (vj.or vi) λvs H Q h=>by
 obtain⟨μ,M,ds,hM,r,h⟩:=h
 match ds,r,h with
 |[],_,h=>exact h.elim
 |d::_::_,_,h=>cases d<;>exact h.elim
 | [d], r, h =>
   obtain⟨v,rfl,hv⟩:=pG r;have gen:ai (match cm M d with|some xs=>.ok (.int xs.length) M|none=>.bad) (bg fa X.K μ H Q)->∃p ys,[v]=[.ref p]/\(c9 X.K H p ys\/dQ X.K H p ys)/\Q (.int ys.length) H:=λh=>by
    cases e:cm M d with
    |none=>rw[e] at h;exact h.elim
    | some xs =>
      rw[e] at h;obtain⟨a,vs,rfl,hq,r⟩:=j8 hM hv e;refine{a,vs,rfl,hq,?_};rw[r.length];exact ba (v:=.int xs.length) hM h rfl
   have str:∀x,d=.str x->∃z,[v]=[V.str z]/\z.length<=sizeLine/\Q (.int z.length) H:=λx e=>by
    subst e;have h:ai (if x.cps.size<=sz then .ok (.int x.cps.size) M else .bad) (bg fa X.K μ H Q):=h;split at h
    ·next c=>exact{x,by rw[show v=.str x from hv],by rw[<- dN];exact c,ba (v:=.int x.cps.size) hM h rfl}
    ·exact h.elim
   cases d<;>first|exact .inr (str _ rfl)|exact .inl (gen h)
def Gp:di X (.type "tuple") (qC fa X.K .tuple):=ml sT λvs H Q h=>by
 obtain⟨μ,M,ds,hM,r,h⟩:=h
 match ds,r,h with
 |[],_,h=>exact h.elim
 |d::_::_,_,h=>cases d<;>exact h.elim
 | [d], r, h =>
   obtain⟨v,rfl,hv⟩:=pG r;have gen:ai (match fZ M d with|some xs=>.ok (.tup xs) M|none=>.bad) (bg fa X.K μ H Q)->∃p ys,[v]=[.ref p]/\((c9 X.K H p ys/\∀l,H l=none->Q (.ref l) (upd H l (.tup ys)))\/(dQ X.K H p ys/\Q (.ref p) H)):=λh=>by
    cases e:fZ M d with
    |none=>rw[e] at h;exact h.elim
    | some xs =>
      rw[e] at h;obtain⟨a,vs,rfl,hq,r⟩:=bS hM hv e;exact{a,vs,rfl,.inl {hq,gU hM r h}}
   have tup:∀x,d=.tup x->∃p ys,[v]=[.ref p]/\((c9 X.K H p ys/\∀l,H l=none->Q (.ref l) (upd H l (.tup ys)))\/(dQ X.K H p ys/\Q (.ref p) H)):=λx e=>by
    subst e;obtain⟨a,vs,rfl,hq,r⟩:=id hv;exact{a,vs,rfl,.inr {hq,ba hM h hv}}
   cases d<;>first|exact tup _ rfl|exact gen h
def JQ (m:Bool):di X (.type "list") (qC fa X.K (.list m)):=ml vh λvs H Q h=>by
 obtain⟨μ,M,ds,hM,r,h⟩:=h
 match ds,r,h with
 |[],_,h=>exact h.elim
 |_::_::_,_,h=>exact h.elim
 | [d], r, h =>
   obtain⟨v,rfl,hv⟩:=pG r;have h:ai (match cm M d with|some xs=>bE m xs M|none=>.bad) (bg fa X.K μ H Q):=h
   cases e:cm M d with
   |none=>rw[e] at h;exact h.elim
   | some xs =>
     rw[e] at h;obtain⟨a,vs,rfl,hq,r⟩:=j8 hM hv e;obtain⟨_,k⟩:=gV hM r h;exact⟨a,vs,rfl,hq,k⟩
end
section
variable{fa:Fa}{X:Cx}{μ:Mu}{H:Hp}{σ:L2.St}{pins:List (Addr×Obj)}{s:OD}{M:Mem}
def MU {d:D}{v:V}{k:Bool}(hM:RelM fa X.K μ H M)(h:Rep fa X.K μ H d v)(e:k9 M d=some k):Dg X.K v H k:=by
 cases d with
 |non=>obtain rfl:v=.non:=h;exact(OG e).symm
 |bl b=>obtain rfl:v=.bl b:=h;exact(OG e).symm
 |int i=>obtain rfl:v=.int i:=h;exact(OG e).symm
 | str x =>
   obtain rfl:v=.str x:=h;have e:(if x.cps.size<=sz then some (x.cps.size != 0) else none)=some k:=e;split at e
   ·next c=>
    refine{by rw[<- dN];exact c,?_}
    rw[<- OG e];show(x.cps.size != 0)=((x.cps.size:Int) != 0);rw[Qk];simp
   ·cases e
 | tup ds =>
   obtain⟨a,vs,rfl,hq,r⟩:=h;refine .inr (.inl {vs,hq,?_});rw[<- OG e];have:=r.length;cases vs<;>cases ds<;>simp_all
 | lst ds =>
   obtain⟨a,vs,rfl,hq,r⟩:=bS (ds:=ds) hM h rfl;refine .inl {vs,hq,?_};rw[<- OG e];have:=r.length;cases vs<;>cases ds<;>simp_all
 | frz ds =>
   obtain⟨a,vs,rfl,hq,r⟩:=bS (ds:=ds) hM h rfl;refine .inl {vs,hq,?_};rw[<- OG e];have:=r.length;cases vs<;>cases ds<;>simp_all
 | cell c =>
   have e:(M[c]?).map (λds=>!ds.isEmpty)=some k:=e;cases e1:M[c]? with
   |none=>rw[e1] at e;cases e
   | some ds =>
     rw[e1] at e;obtain⟨a,vs,rfl,hq,r⟩:=bS (ds:=ds) hM h e1;refine .inl {vs,hq,?_};rw[<- OG e];have:=r.length;cases vs<;>cases ds<;>simp_all
 |fn f=>cases e
 |exc y p=>cases e
def mG:∀{ds:List D}{bs:List Bool}{vs:List V}{us:List Oz},boolsOf ds=some bs->aR fa X.K μ H ds vs->Vals vs us->PyProof.Rows.LSm.BoolsAre us bs:=by
 intro ds;induction ds with
 | nil =>
   intro bs vs us e h r;obtain rfl:vs=[]:=h;cases r;cases e;exact .nil
 | cons d ds ih =>
   intro bs vs us e h r;obtain⟨v,vr,rfl,h1,h2⟩:=h;cases r with
   | cons r1 r2 =>
     cases d with
     | bl b =>
       have e:(boolsOf ds).map (b::·)=some bs:=e;cases e1:boolsOf ds with
       |none=>rw[e1] at e;cases e
       | some cs =>
         rw[e1] at e;have e2:b::cs=bs:=OG e;subst e2;obtain rfl:v=.bl b:=h1;obtain rfl:_=Value.bool b:=r1;exact .cons b (ih e1 h2 r2)
     |_=>cases e
def rf:di X (.builtin "all") (λxs H Q=>∃μ ds bs p vs,xs=[.ref p]/\X.calm=true/\c9 X.K H p vs/\aR fa X.K μ H ds vs/\boolsOf ds=some bs/\Q (.bl (bs.all id)) H):=by
 intro pins s σ H xs us Q I r h;obtain⟨μ,ds,bs,p,vs,rfl,hc,hq,rl,eb,q⟩:=h;obtain⟨u,rfl,rx⟩:=vals1 r;cases rx;obtain⟨its,rv,pl,hz⟩:=I.list hq;have hb:=mG eb rl rv;have hlt:p<s.heap.objs.size:=pl.lt;refine call_all_walk (wpAny_pyIter_list pl.isList ?_);refine{s.heap.objs.size,[s.heap.objs.size,p],[s.heap.objs.size],its.toArray.size,_,_,λi=>(bs[i]?).getD true,rfl,Walks.list (A:=X.A.in1) (I.ok.hd hc) _ p (PK hlt) its.toArray,
  {{_,OZ _ rfl,rfl,rfl},pl.isList.push _},λi v s' Q' E' hP hQ=>?_,λh' tk hk=>?_}
 ·obtain⟨b,e,rfl⟩:=hb.get i v (by simpa using hP)
  simp only[e,Pm] at hQ;exact tqp hQ
 ·have e:((List.range its.toArray.size).all λi=>(bs[i]?).getD true)=bs.all id:=by
   rw[OH,hb.length];exact PyProof.Rows.LSm.range_all bs
  rw[e];exact{.bl _,H,I.kept (PyProof.Rows.LSm.kept_iter hk),rfl,q}
def LC (hc:X.calm=true):di X (.builtin "all") (qC fa X.K .all):=ml (rf (fa:=fa)) λvs H Q h=>by
 obtain⟨μ,M,ds,hM,r,h⟩:=h
 match ds,r,h with
 |[],_,h=>exact h.elim
 |d::_::_,_,h=>exact h.elim
 | [d], r, h =>
   obtain⟨v,rfl,hv⟩:=pG r;have h:ai (match fZ M d with|some xs=>(match boolsOf xs with|some bs=>.ok (.bl (bs.all id)) M|none=>.bad)|none=>.bad) (bg fa X.K μ H Q):=h
   cases e:fZ M d with
   |none=>rw[e] at h;exact h.elim
   | some xs =>
     rw[e] at h;simp only at h;cases e2:boolsOf xs with
     |none=>rw[e2] at h;exact h.elim
     | some bs =>
       rw[e2] at h;obtain⟨a,vs,rfl,hq,r⟩:=bS hM hv e;exact{μ,xs,bs,a,vs,rfl,hc,hq,r,e2,ba (v:=.bl (bs.all id)) hM h rfl}
noncomputable def tyName:Ty->String
 |.int=>"int" | .bool=>"bool" | .str=>"str" | .tuple=>"tuple" | .list=>"list" | .own _=>""
noncomputable def Mk:D->String
 |.non=>"NoneType" | .bl _=>"bool" | .int _=>"int" | .str _=>"str" | .tup _=>"tuple" | _=>"list"
def KD (t:Ty)(d:D)(b:Bool)(ht:∀c,t≠.own c)(e:bI t d=some b):PySem.W.kitOne X.K (.type (Mk d)) (.type (tyName t))=some b:=by
 cases t with
 |own c=>exact absurd rfl (ht c)
 |_=>cases d<;>first|(cases (show(none:Option Bool)=some b from e))|(have e':=OG e;subst e';(first|rfl|decide +kernel))
def Bt {d:D}{v:V}{b:Bool}{t:Ty}(hM:RelM fa X.K μ H M)(h:Rep fa X.K μ H d v)(e:bI t d=some b)(I:Inv X pins σ H s){u c:Oz}(r:RelV v u){Q:Oz->OD->Prop}
 (ek:PySem.W.kitOne X.K (.type (Mk d)) c=some b) (q:∀tk,Q (.bool b) {s with toks:=tk}):wpAny (model X.prog X.w) X.A (call (.builtin "isinstance") [u,c]) Q X.xe s:=by
 cases d with
 |non=>obtain rfl:v=.non:=h;exact kK I r .non ek q
 |bl x=>obtain rfl:v=.bl x:=h;exact kK I r (.bl x) ek q
 |int x=>obtain rfl:v=.int x:=h;exact kK I r (.int x) ek q
 |str x=>obtain rfl:v=.str x:=h;exact kK I r (.str x) ek q
 | tup ds =>
   obtain⟨a,vs,rfl,hq,_⟩:=h;obtain rfl:u=Value.ref a:=r;obtain⟨its,rv,⟨o,h1,h2,_⟩,_⟩:=I.tuple hq;exact PC PySem.W.kitx_tuple I.kIn ⟨o,h1,h2⟩ ek (λz=>nomatch z) q
 | lst ds =>
   obtain⟨a,vs,rfl,hq,_⟩:=bS (ds:=ds) hM h rfl;obtain rfl:u=Value.ref a:=r;obtain⟨its,rv,⟨o,n,h1,h2,_⟩,_⟩:=I.list hq;exact PC PySem.W.kitx_list I.kIn ⟨o,h1,h2⟩ ek (λz=>nomatch z) q
 | frz ds =>
   obtain⟨a,vs,rfl,hq,_⟩:=bS (ds:=ds) hM h rfl;obtain rfl:u=Value.ref a:=r;obtain⟨its,rv,⟨o,n,h1,h2,_⟩,_⟩:=I.list hq;exact PC PySem.W.kitx_list I.kIn ⟨o,h1,h2⟩ ek (λz=>nomatch z) q
 | cell k =>
   obtain⟨a,rfl,hk⟩:=h;obtain⟨ds,vs,_,hq,_⟩:=hM.mu_lt hk;obtain rfl:u=Value.ref a:=r;obtain⟨its,rv,⟨o,n,h1,h2,_⟩,_⟩:=I.list (c9.of hq);exact PC PySem.W.kitx_list I.kIn ⟨o,h1,h2⟩ ek (λz=>nomatch z) q
 |fn f=>cases e
 |exc y p=>cases e
noncomputable def K8 (fa:Fa)(K:OA)(t:Ty):List V->Hp->VK->Prop:=λvs H Q=>∃μ M d v b,vs=[v,.ty (tyName t)]/\RelM fa K μ H M/\Rep fa K μ H d v/\bI t d=some b/\Q (.bl b) H
def JR (t:Ty)(ht:∀c,t≠.own c):di X (.builtin "isinstance") (K8 fa X.K t):=by
 intro pins s σ H xs us Q I r h;obtain⟨μ,M,d,v,b,rfl,hM,hv,e,q⟩:=h;obtain⟨u,w,rfl,r1,r2⟩:=vals2 r;obtain rfl:w=Value.type (tyName t):=r2;exact Bt hM hv e I r1 (KD t d b ht e) λtk=>{.bl b,H,I.tok _,rfl,q}
end
section
variable{fa:Fa}{X:Cx}
abbrev DE (fa:Fa)(X:Cx)(e:Expr)(g:Env->Mem->Res D):Prop:=PE X e (tE fa X.K g)
abbrev DT (fa:Fa)(X:Cx)(e:Expr)(g:Env->Mem->Res Bool):Prop:=PT X e (tT fa X.K g)
abbrev DW (fa:Fa)(X:Cx)(e:Expr)(g:Env->Mem->Res Bool):Prop:=PW X e (tT fa X.K g)
abbrev DA (fa:Fa)(X:Cx)(es:List Expr)(g:Env->Mem->Res (List D)):Prop:=PA X es (tA fa X.K g)
abbrev DS (fa:Fa)(X:Cx)(st:Stmt)(g:Env->Mem->Res Fl):Prop:=PS X st (tF fa X g)
abbrev kZ (fa:Fa)(X:Cx)(st:List Stmt)(g:Env->Mem->Res Fl):Prop:=nh X st (tF fa X g)
variable{a b d:Expr}{ga gb gd:Env->Mem->Res D}{pos:Pos}
def LM {i:Nat}{x:Str}(hN:X.N[i]?=some x)(hv:sM X.env.scope x)(hd:(x==("__debug__":Str))=false)(hcd:(x==("__classdict__":Str))=false) :
 DE fa X (.Name x pos) (λZ M=>cK M (Z[i]?.getD none)):=bG (pK hN hv hd hcd) λσ H Q ⟨μ,Z,M,hE,hM,h⟩=>by
 obtain⟨d,e,w⟩:=nB h;have e':Z[i]?=some (some d):=by
  cases q:Z[i]? with
  |none=>rw[q] at e;cases e
  |some o=>rw[q] at e;simp at e;rw[e]
 obtain⟨v,h1,h2⟩:=hE.at' i d e';exact{v,h1,ba hM w h2}
def jV {e:Expr}{dc:D}{v:V}(h:PE X e (tC v))(r:∀μ H,Rep fa X.K μ H dc v):DE fa X e (λ_ M=>.ok dc M):=bG h λσ H Q ⟨μ,Z,M,hE,hM,h⟩=>ba hM h (r μ H)
def LX {i:Int}{j:Nat}:DE fa X (.Constant (.int i) j pos) (λ_ M=>.ok (.int i) M):=jV (v:=.int i) zR λ_ _=>rfl
def Ke {i:Bool}{j:Nat}:DE fa X (.Constant (.bool i) j pos) (λ_ M=>.ok (.bl i) M):=jV (v:=.bl i) xC λ_ _=>rfl
def LO {i:Str}{j:Nat}:DE fa X (.Constant (.str i) j pos) (λ_ M=>.ok (.str i) M):=jV (v:=.str i) IF λ_ _=>rfl
def LR {j:Nat}:DE fa X (.Constant .none j pos) (λ_ M=>.ok .non M):=jV (v:=.non) IK λ_ _=>rfl
def t2 {μ:Mu}{H:Hp}{σ:L2.St}{Z:Env}{M:Mem}{β:Type}{f:D->D->Mem->Res β}{P:β->Mem->Prop}{R:V->V->Hp->Prop}(hE:bt fa X.K μ H σ Z)(hM:RelM fa X.K μ H M)
 (h:ai ((ga Z M).bind λx M=>(gb Z M).bind λy M=>f x y M) P)
 (k:∀x y M2 v u H2 μ2,Ext μ H μ2 H2->bt fa X.K μ2 H2 σ Z->RelM fa X.K μ2 H2 M2->Rep fa X.K μ2 H2 x v->Rep fa X.K μ2 H2 y u->ai (f x y M2) P->R v u H2) :
 tE fa X.K ga σ H λv H1=>tE fa X.K gb σ H1 λu H2=>R v u H2:=
 t1 hE hM h λx M1 v H1 μ1 x1 hE1 hM1 r1 h1=>t1 hE1 hM1 h1 λy M2 u H2 μ2 x2 hE2 hM2 r2 h2=>k x y M2 v u H2 μ2 (x1.trans x2) hE2 hM2 (r1.ext x2) r2 h2
def L6 (m:Bool)(o:mz)(ha:DE fa X a ga)(hb:DE fa X b gb):DE fa X (.BinOp a (binOp o) b pos) (λZ M=>(ga Z M).bind λx M=>(gb Z M).bind λy M=>fY m o x y M):=
 bG (Le (Me m o) ha hb) λσ H Q ⟨μ,Z,M,hE,hM,h⟩=>t2 hE hM h λx y M2 v u H2 μ2 x2 hE2 hM2 r1 r2 h2=>{μ2,M2,x,y,hM2,r1,r2,kD h2 x2}
def pP {r:Option Bool}{M:Mem}{P:D->Mem->Prop}(h:ai ((cK M r).bind λb M=>.ok (.bl b) M) P):∃b,r=some b/\P (.bl b) M:=by
 obtain⟨b,M1,e,q⟩:=aV h;cases r with
 |none=>cases e
 |some b'=>cases e;exact{_,rfl,q}
def LZ (hu:Rm X)(o:kr)(ha:DE fa X a ga)(hb:DE fa X b gb)(hm:behindInMarks (fg o) b=false) :
 DE fa X (.Compare a [fg o] [b] pos) (λZ M=>(ga Z M).bind λx M=>(gb Z M).bind λy M=>(cK M (br o x y M)).bind λb M=>.ok (.bl b) M):=
 bG (wt (nS hu o) ha hb hm) λσ H Q ⟨μ,Z,M,hE,hM,h⟩=>t2 hE hM h λx y M2 v u H2 μ2 x2 hE2 hM2 r1 r2 h2=>by
  obtain⟨b,e,q⟩:=pP h2;exact{μ2,M2,x,y,b,hM2,r1,r2,e,ba (v:=.bl b) hM2 (q.ext x2) rfl}
def JZ (hu:Rm X)(o:kr)(ha:DE fa X a ga)(hb:DE fa X b gb)(hm:behindInMarks (fg o) b=false) :
 DT fa X (.Compare a [fg o] [b] pos) (λZ M=>((ga Z M).bind λx M=>(gb Z M).bind λy M=>(cK M (br o x y M)).bind λb M=>.ok (.bl b) M).bind λx M=>cK M (k9 M x)):=
 lA (qD (nS hu o) ha hb hm) λσ H Q ⟨μ,Z,M,hE,hM,h⟩=>by
  obtain⟨z,M3,e,q⟩:=aV h;have h':ai ((ga Z M).bind λx M=>(gb Z M).bind λy M=>(cK M (br o x y M)).bind λb M=>.ok (.bl b) M) (λd M=>d=z/\M=M3):=by rw[e];exact⟨rfl,rfl⟩
  refine t2 hE hM h' λx y M2 v u H2 μ2 x2 hE2 hM2 r1 r2 h2=>?_;obtain⟨b,e1,e2,e3⟩:=pP h2;subst e2 e3;exact{μ2,M2,x,y,b,hM2,r1,r2,e1,b,rfl,q H2 μ2 x2 hM2}
def Fe {g:Env->Mem->Res D}{σ:L2.St}{H:Hp}{Q:Bool->Hp->Prop}(hb:∀Z M x M',g Z M=.ok x M'->∃k,x=.bl k)(h:tT fa X.K (λZ M=>(g Z M).bind λx M=>cK M (k9 M x)) σ H Q) :
 tE fa X.K g σ H (λx H'=>∃k,x=.bl k/\Q k H'):=by
 obtain⟨μ,Z,M,hE,hM,h⟩:=h;obtain⟨x,M1,e,q⟩:=aV h;obtain⟨k,rfl⟩:=hb Z M x M1 e;refine{μ,Z,M,hE,hM,?_};rw[e];intro v H1 μ1 x1 m1 r1;obtain rfl:v=.bl k:=r1;exact{k,rfl,q H1 μ1 x1 m1}
def Es {o o':kr}{gc:Env->Mem->Res D}(σ:L2.St)(H:Hp)(Q:VK):tE fa X.K (λZ M=>(ga Z M).bind λx M=>(gb Z M).bind λy M=>(cK M (br o x y M)).bind λk M=>
 if k then(gc Z M).bind λz M=>(cK M (br o' y z M)).bind λb M=>.ok (.bl b) M else .ok (.bl false) M) σ H Q->tU (ip fa X.K o) (ip fa X.K o') (tE fa X.K ga) (tE fa X.K gb) (tE fa X.K gc) σ H Q:=λ⟨μ,Z,M,hE,hM,h⟩=>by
 refine t2 hE hM h λx y M2 v u H2 μ2 x2 hE2 hM2 r1 r2 h2=>?_;obtain⟨k,M3,e,q⟩:=aV h2;cases ec:br o x y M2 with
 |none=>rw[ec] at e;cases e
 | some k' =>
   rw[ec] at e;cases e;refine{μ2,_,x,y,k,hM2,r1,r2,ec,k,rfl,?_};cases k with
   |false=>exact ba (v:=.bl false) hM2 (bg.ext q x2) rfl
   | true =>
     refine t1 hE2 hM2 q λz M4 w H4 μ4 x4 hE4 hM4 r4 h4=>?_;obtain⟨b,e4,q4⟩:=pP h4;exact{μ4,M4,y,z,b,hM4,r2.ext x4,r4,e4,ba (v:=.bl b) hM4 (q4.ext (x2.trans x4)) rfl}
def L5 (hu:Rm X)(o o':kr){gc:Env->Mem->Res D}(ha:DE fa X a ga)(hb:DE fa X b gb)(hc:DE fa X d gc)(hm:lastMarks [fg o,fg o'] [b,d]=false) :
 DE fa X (.Compare a [fg o,fg o'] [b,d] pos) (λZ M=>(ga Z M).bind λx M=>(gb Z M).bind λy M=>(cK M (br o x y M)).bind λk M=>
  if k then(gc Z M).bind λz M=>(cK M (br o' y z M)).bind λb M=>.ok (.bl b) M else .ok (.bl false) M):=bG (Cb (nS hu o) (nS hu o') ha hb hc hm) Es
def Ce {r:Option Bool}{M M':Mem}{x:D}(h:((cK M r).bind λb M=>Res.ok (.bl b) M)=.ok x M'):∃k,x=.bl k:=by
 cases r with
 |none=>cases h
 |some b=>cases h;exact⟨b,rfl⟩
def fN {α β:Type}{r:Res α}{f:α->Mem->Res β}{x:β}{M:Mem}(h:r.bind f=.ok x M):∃a M1,r=.ok a M1/\f a M1=.ok x M:=by
 cases r with
 |ok a M1=>exact⟨a,M1,rfl,h⟩
 |err=>cases h
 |bad=>cases h
def J0 (hu:Rm X)(o o':kr){gc:Env->Mem->Res D}(ha:DE fa X a ga)(hb:DE fa X b gb)(hc:DE fa X d gc)(hm:lastMarks [fg o,fg o'] [b,d]=false) :
 DT fa X (.Compare a [fg o,fg o'] [b,d] pos) (λZ M=>((ga Z M).bind λx M=>(gb Z M).bind λy M=>(cK M (br o x y M)).bind λk M=>
  if k then(gc Z M).bind λz M=>(cK M (br o' y z M)).bind λb M=>.ok (.bl b) M else .ok (.bl false) M).bind λx M=>cK M (k9 M x)):=
 lA (B6 (nS hu o) (nS hu o') ha hb hc hm) λσ H Q h=>Es σ H _ (Fe (λZ M x M' e=>by
  obtain⟨x1,M1,_,e⟩:=fN e;obtain⟨x2,M2,_,e⟩:=fN e;obtain⟨k,M3,_,e⟩:=fN e;cases k with
  |false=>cases e;exact{_,rfl}
  | true =>
    obtain⟨x4,M4,_,e⟩:=fN e;exact Ce e) h)
def LU (ha:DE fa X a ga):DE fa X (.UnaryOp .USub a pos) (λZ M=>(ga Z M).bind λx M=>match x with|.int i=>.ok (.int (-i)) M|_=>.bad):=
 bG (DZ yS ha) λσ H Q ⟨μ,Z,M,hE,hM,h⟩=>t1 hE hM h λx M1 v H1 μ1 x1 hE1 hM1 r1 h1=>by
  cases x with
  |int i=>exact{i,r1,ba (v:=.int (-i)) hM1 (bg.ext h1 x1) rfl}
  |_=>exact h1.elim
def L7 {rest:List Expr}(ha:DE fa X a ga)(hb:DE fa X (.BoolOp .And (b::rest) pos) gb):DE fa X (.BoolOp .And (a::b::rest) pos) (λZ M=>(ga Z M).bind λx M=>match x with
 |.bl true=>gb Z M
 |.bl false=>.ok (.bl false) M
 |_=>.bad):=
 bG (IP ha hb) λσ H Q ⟨μ,Z,M,hE,hM,h⟩=>t1 hE hM h λx M1 v H1 μ1 x1 hE1 hM1 r1 h1=>by
  cases x with
  | bl k =>
    refine{k,r1,?_};cases k with
    |true=>exact{μ1,Z,M1,hE1,hM1,kD h1 x1}
    |false=>exact ba (v:=.bl false) hM1 (bg.ext h1 x1) rfl
  |_=>exact h1.elim
def N0 {rest:List Expr}(ha:DE fa X a ga)(hb:DE fa X (.BoolOp .Or (b::rest) pos) gb):DE fa X (.BoolOp .Or (a::b::rest) pos) (λZ M=>(ga Z M).bind λx M=>match x with
 |.bl true=>.ok (.bl true) M
 |.bl false=>gb Z M
 |_=>.bad):=
 bG (Ld ha hb) λσ H Q ⟨μ,Z,M,hE,hM,h⟩=>t1 hE hM h λx M1 v H1 μ1 x1 hE1 hM1 r1 h1=>by
  cases x with
  | bl k =>
    refine{k,r1,?_};cases k with
    |true=>exact ba (v:=.bl true) hM1 (bg.ext h1 x1) rfl
    |false=>exact{μ1,Z,M1,hE1,hM1,kD h1 x1}
  |_=>exact h1.elim
def EA {op:PySem.BoolOp}(ha:DE fa X a ga):DE fa X (.BoolOp op [a] pos) ga:=II ha
def LQ (ha:DE fa X a ga):DE fa X (.UnaryOp .Not a pos) (λZ M=>(ga Z M).bind λx M=>match x with|.bl k=>.ok (.bl (!k)) M|_=>.bad):=
 bG (IJ ha) λσ H Q ⟨μ,Z,M,hE,hM,h⟩=>t1 hE hM h λx M1 v H1 μ1 x1 hE1 hM1 r1 h1=>by
  cases x with
  |bl k=>exact{k,r1,ba (v:=.bl (!k)) hM1 (bg.ext h1 x1) rfl}
  |_=>exact h1.elim
variable{ta tb:Env->Mem->Res Bool}
def Gz (ha:DT fa X a ta):DW fa X (.BoolOp .And [a] pos) ta:=FN ha
def JW (ha:DT fa X a ta):DW fa X (.BoolOp .Or [a] pos) ta:=Iq ha
def My {b':Res Bool}{μ μ':Mu}{H H':Hp}{Q:Bool->Hp->Prop}(x:Ext μ H μ' H')(h:ai b' λb M'=>∀H'' μ'',Ext μ H μ'' H''->RelM fa X.K μ'' H'' M'->Q b H''):ai b' λb M'=>∀H'' μ'',Ext μ' H' μ'' H''->RelM fa X.K μ'' H'' M'->Q b H'':=
 aH h λb M q H'' μ'' y m=>q H'' μ'' (x.trans y) m
def JX {rest:List Expr}(ha:DT fa X a ta)(hb:DW fa X (.BoolOp .And (b::rest) pos) tb):DW fa X (.BoolOp .And (a::b::rest) pos) (λZ M=>(ta Z M).bind λk M=>if k then tb Z M else .ok false M):=
 zL (Ir ha hb) λσ H Q ⟨μ,Z,M,hE,hM,h⟩=>zg hE hM h λk M1 H1 μ1 x1 hE1 hM1 h1=>by
  cases k with
  |true=>exact{μ1,Z,M1,hE1,hM1,My x1 h1}
  |false=>exact h1 H1 μ1 x1 hM1
def LJ {rest:List Expr}(ha:DT fa X a ta)(hb:DW fa X (.BoolOp .Or (b::rest) pos) tb):DW fa X (.BoolOp .Or (a::b::rest) pos) (λZ M=>(ta Z M).bind λk M=>if k then .ok true M else tb Z M):=
 zL (Lb ha hb) λσ H Q ⟨μ,Z,M,hE,hM,h⟩=>zg hE hM h λk M1 H1 μ1 x1 hE1 hM1 h1=>by
  cases k with
  |true=>exact h1 H1 μ1 x1 hM1
  |false=>exact{μ1,Z,M1,hE1,hM1,My x1 h1}
def JY (ha:DT fa X a ta):DT fa X (.UnaryOp .Not a pos) (λZ M=>(ta Z M).bind λk M=>.ok (!k) M):=
 lA (Iv ha) λσ H Q ⟨μ,Z,M,hE,hM,h⟩=>zg hE hM h λk M1 H1 μ1 x1 hE1 hM1 h1=>h1 H1 μ1 x1 hM1
def CV (ha:DE fa X a ga)(he:∀whole,isTrue a X.env whole=(do let v <- whole;standAt a.pos;holding [v] (truthy v))):DT fa X a (λZ M=>(ga Z M).bind λx M=>cK M (k9 M x)):=
 lA (B5 ha he) λσ H Q ⟨μ,Z,M,hE,hM,h⟩=>t1 hE hM h λx M1 v H1 μ1 x1 hE1 hM1 r1 h1=>by
  obtain⟨k,e,q⟩:=nB h1;exact{k,MU hM1 r1 e,q H1 μ1 x1 hM1}
def LW {c:Expr}{gc:Env->Mem->Res Bool}(hc:DT fa X c gc)(ha:DE fa X a ga)(hb:DE fa X b gb):DE fa X (.IfExp c a b pos) (λZ M=>(gc Z M).bind λk M=>if k then ga Z M else gb Z M):=
 bG (uv hc ha hb) λσ H Q ⟨μ,Z,M,hE,hM,h⟩=>zg hE hM h λk M1 H1 μ1 x1 hE1 hM1 h1=>by
  cases k with
  |true=>exact{μ1,Z,M1,hE1,hM1,kD h1 x1}
  |false=>exact{μ1,Z,M1,hE1,hM1,kD h1 x1}
def LY (ha:DE fa X a ga)(hb:DE fa X b gb)(hs:lK b):DE fa X (.Subscript a b pos) (λZ M=>(ga Z M).bind λx M=>(gb Z M).bind λy M=>cK M (bZ x y M)):=
 bG (D3 Lu ha hb hs) λσ H Q ⟨μ,Z,M,hE,hM,h⟩=>t2 hE hM h λx y M2 v u H2 μ2 x2 hE2 hM2 r1 r2 h2=>by
  obtain⟨d,e,q⟩:=nB h2;exact{μ2,M2,x,y,d,hM2,r1,r2,e,q.ext x2}
noncomputable def DO (fa:Fa)(X:Cx)(e:Option Expr)(hp:Bool)(g:Env->Mem->Res D):Prop:=PO X e λσ H Q=>∃μ Z M,bt fa X.K μ H σ Z/\RelM fa X.K μ H M/\ai (g Z M) λd M'=>∃o,cH hp d=true/\pL d=some o/\∀H' μ',Ext μ H μ' H'->RelM fa X.K μ' H' M'->Q o H'
def GI:DO fa X none false (λ_ M=>.ok .non M):=λpins s σ H Q I ⟨μ,Z,M,hE,hM,o,_,e,k⟩=>by
 cases e;exact FU pins s σ H Q I (k H μ .refl hM)
def GH (ha:DE fa X a ga):DO fa X (some a) true ga:=λpins s σ H Q I ⟨μ,Z,M,hE,hM,h⟩=>FT ha pins s σ H Q I {μ,Z,M,hE,hM,aH h λd M' ⟨o,p,e,k⟩ v H' μ' x m r=>by
 cases d with
 |int i=>cases e;exact{i,r,k H' μ' x m}
 |_=>cases p}
def part_of {hp:Bool}{d:D}(h:cH hp d=true):∃o,pL d=some o:=by
 cases hp<;>cases d<;>first|exact{_,rfl}|cases h
def LP (m hl hh:Bool){lo hi:Option Expr}{gl gh:Env->Mem->Res D}{p2:Pos}(ha:DE fa X a ga)(hlo:DO fa X lo hl gl)(hhi:DO fa X hi hh gh):DE fa X (.Subscript a (.Slice lo hi none p2) pos)
 (λZ M=>(ga Z M).bind λx M=>(gl Z M).bind λl M=>(gh Z M).bind λh M=>if cH hl l&&cH hh h then fq m x l h M else .bad):=
 bG (uu (Fs (fa:=fa) m) ha hlo hhi) λσ H Q ⟨μ,Z,M,hE,hM,h⟩=>t1 hE hM h λx M1 v H1 μ1 x1 hE1 hM1 r1 h1=>by
  obtain⟨l,M2,e2,h2⟩:=aV h1;obtain⟨u,M3,e3,h3⟩:=aV h2;split at h3
  ·next c=>
   rw[OB] at c;obtain⟨ol,el⟩:=part_of c.1;obtain⟨ou,eu⟩:=part_of c.2;refine{μ1,Z,M1,hE1,hM1,?_};rw[e2];refine{ol,c.1,el,λH2 μ2 x2 hM2=>{μ2,Z,M2,hE1.ext x2,hM2,?_}};rw[e3];exact{ou,c.2,eu,λH3 μ3 x3 hM3=>{μ3,M3,x,l,u,hM3,(r1.ext x2).ext x3,el,eu,kD h3 ((x1.trans x2).trans x3)}}
  ·exact h3.elim
def Ka:DA fa X [] (λ_ M=>.ok [] M):=zW eB λσ H Q ⟨μ,Z,M,hE,hM,h⟩=>h [] H μ .refl hM rfl
def GU {es:List Expr}{gs:Env->Mem->Res (List D)}(ha:DE fa X a ga)(hs:DA fa X es gs)(h0:starEach (a::es) X.env=(false,eval a X.env)::starEach es X.env) :
 DA fa X (a::es) (λZ M=>(ga Z M).bind λx M=>(gs Z M).bind λxs M=>.ok (x::xs) M):=
 zW (bX ha hs h0) λσ H Q ⟨μ,Z,M,hE,hM,h⟩=>t1 hE hM h λx M1 v H1 μ1 x1 hE1 hM1 r1 h1=>tW hE1 hM1 h1 λxs M2 vs H2 μ2 x2 hE2 hM2 r2 h2=>h2 (v::vs) H2 μ2 (x1.trans x2) hM2 {v,vs,rfl,r1.ext x2,r2}
def LN {es:List Expr}{gs:Env->Mem->Res (List D)}{k:Nat}(hs:DA fa X es gs):DE fa X (.Tuple es k pos) (λZ M=>(gs Z M).bind lZ):=
 bG (IE hs) λσ H Q ⟨μ,Z,M,hE,hM,h⟩=>tW hE hM h λxs M1 vs H1 μ1 x1 hE1 hM1 r1 h1=>by
  unfold lZ at h1;split at h1
  ·next c=>exact{by rw[r1.length,<- dN];exact c,gU hM1 r1 (bg.ext h1 x1)}
  ·exact h1.elim
def LV (m:Bool){es:List Expr}{gs:Env->Mem->Res (List D)}(hs:DA fa X es gs):DE fa X (.List es pos) (λZ M=>(gs Z M).bind (bE m)):=
 bG (IL hs) λσ H Q ⟨μ,Z,M,hE,hM,h⟩=>tW hE hM h λxs M1 vs H1 μ1 x1 hE1 hM1 r1 h1=>by
  obtain⟨c,k⟩:=gV hM1 r1 (kD h1 x1);exact{by rw[r1.length,<- dN];exact c,k}
end
def mW (o:Obj)(f:Array Oz->Array Oz):(o.mapFields f).dict=o.dict:=by
 obtain⟨c,d,dt,sl⟩:=o;cases dt<;>rfl
section
variable{P:OX}{w:O6}{M:Model}{A:Pu}{E:Oz->OD->Prop}{base:Heap}{env:Po}{outer:List Po}{L a C:Addr}{dx:Option Addr}{New:Addr->Prop}{H:Hp}{s:OD}{Q:Unit->OD->Prop}
def vR {oe:Obj}{vs:Array Oz}{head:Oz}{had:Bool}(hfr:A.frames=some (env::outer))(hl:s.heap.FunFrames base (env::outer))(hf:env.frame=some L)
 (he:s.heap.get? a=some oe) (hd:oe.data=.fields vs) (hsz:1<vs.size)
 (h:∀h' T oT ts,(∀b o,b∉gi (env::outer)->b≠a->s.heap.get? b=some o->h'.get? b=some o)->(∀b o,b≠a->s.heap.get? b=some o->∃sl,h'.get? b=some {o with slots:=sl})->s.heap.objs.size<=T->T≠a->
  h'.get? a=some (oe.mapFields (·.setIfInBounds 1 (.ref T)))->h'.get? T=some oT->oT.data=.fields ts->ts[3]?=some .none->Q () {s with heap:=h'}) :
 wpAny M A (do let f <- frameOf env;let pl <- entryPlaceOf L had;let b <- EntryCells.newEntry head f .none (rawInt L) .none pl;setField (.ref a) 1 b) (λ_ s'=>wpAny M A (setFlight (.ref a) none) Q E s') E s:=by
 have hene:a∉gi (env::outer):=λhm=>by
  obtain⟨_,o,ho,hnf⟩:=hl.mem hm;rw[he] at ho;cases ho;exact hnf vs hd
 refine tqa (wpAny_frameOf_fun hfr hl hf λh₁ hs₁=>?_);refine tqa (wpAny_entryPlaceOf λpl hpl=>?_);unfold EntryCells.newEntry newFields;refine tqa (wpAny_newObj_type ?_ (hpl.sizeOk5 _ _ _ _ _));have he₁:h₁.get? a=some oe:=(hs₁.2.1 a hene).trans he;generalize ho:({cls:=.type "traceback",dict:=none,data:=.fields ([head,.ref L,.none,rawInt L,.none]++(if pl.isEmpty then List.replicate 6 Value.none else pl)).toArray}:Obj)=o;have hod:o.data=.fields ([head,.ref L,.none,rawInt L,.none]++(if pl.isEmpty then List.replicate 6 Value.none else pl)).toArray:=by rw[<- ho]
 have he₂:=OE (h:=h₁) o he₁;refine wpAny_setField he₂ hd hsz ?_;have hTe:h₁.objs.size≠a:=P4 (OQ he₁);have hd₃:=P7 hd (·.setIfInBounds 1 (Value.ref h₁.objs.size));have he₃:=Qd (Obj.mapFields (·.setIfInBounds 1 (Value.ref h₁.objs.size))) he₂ (QB hd₃);have hT₃:=(PH (h₁.push o) (Obj.mapFields (·.setIfInBounds 1 (Value.ref h₁.objs.size))) (PZ hTe)).trans (OZ h₁ (QB hod));unfold setFlight;refine tqa (tqf he₃ hd₃ (x:=.ref h₁.objs.size) (by simp[hsz]) ?_)
 rw[if_pos (show(Value.ref h₁.objs.size != Value.none)=true from by simp)]
 refine wpAny_setField hT₃ hod (by simp only[OH,Pz,List.length_cons,List.length_nil]<;>omega) ?_
 have keep:∀b u,b≠a->h₁.get? b=some u->(((h₁.push o).update a (Obj.mapFields (·.setIfInBounds 1 (Value.ref h₁.objs.size)))).update h₁.objs.size (Obj.mapFields (·.setIfInBounds 3 ((none:Option Addr).elim Value.none λf=>rawInt f)))).get? b=some u:=λb u hbe hb=>by
  have hbT:h₁.objs.size≠b:=P4 (OQ hb);rw[PH _ _ hbT,PH _ _ (PZ hbe)];exact OE _ hb
 refine h _ h₁.objs.size _ _ (λb u hb hbe q=>keep b u hbe ((hs₁.2.1 b hb).trans q)) (λb u hbe q=>?_) (Nat.le_of_eq hs₁.1.symm) hTe ?_ (Qd _ hT₃ (QB (P7 hod _))) (P7 hod _) ?_
 ·obtain⟨sl,e⟩:=hs₁.2.2 b u q;exact{sl,keep b _ hbe e}
 ·rw[PH _ _ hTe];exact he₃
 ·first|(simp;done)|(rcases hpl with rfl|⟨_,_,_,_,_,_,_,rfl⟩<;>simp)
def qF (hfr:A.frames=some (env::outer))(hl:s.heap.FunFrames base (env::outer))(hf:env.frame=some L)(hF:my New C dx a s.heap H)(hN:∀b,s.heap.objs.size<=b->New b)(hok:fb P w H s.heap)(hfree:∀b∈gi (env::outer),H b=none)
 (h:∀h' ch,(∀b∈ch,New b/\H b=none/\∃o vs,s.heap.get? b=some o/\o.data=.fields vs)->Un (gi (env::outer)) ch H H s.heap h'->fb P w H h'->my New C dx a h' H->Q () {s with heap:=h'}) :
 wpAny M A (noteFrame (.ref a) env) (λ_ s1=>wpAny M A (setFlight (.ref a) none) Q E s1) E s:=by
 obtain⟨na,ha,oe,vs,he,hc,hdx,hd,tr⟩:=hF;have fin:∀h' ch,(∀b∈ch,New b/\H b=none/\∃o vs,s.heap.get? b=some o/\o.data=.fields vs)->(∀b o,b∉gi (env::outer)->b∉ch->s.heap.get? b=some o->h'.get? b=some o)->(∀b o,b∉ch->s.heap.get? b=some o->∃sl,h'.get? b=some {o with slots:=sl})->my New C dx a h' H->Q () {s with heap:=h'}:=λh' ch hch keep slot fl=>by
  refine h h' ch hch {λb o q _ hb hx=>keep b o hb hx q,λb o q _ _ hx=>slot b o hx q,λ_ _ _ n _=>n,λb o q hx=>let⟨sl,e⟩:=slot b o hx q;{_,e},λ_ _ e=>e,λ_ _ _ e=>e,λb ps e=>{#[],by rw[e];simp}} (λb u e=>(hok b u e).stay (λc v hc q=>?_) (λ_ q=>q) λ_ _ q=>q) fl
  have nn:H c≠none:=by rcases hc with z|z<;>(intro z';first|(rw[z,e] at z';cases z')|(rw[z] at z';cases z'))
  exact keep c v (λz=>nn (hfree c z)) (λz=>nn (hch c z).2.1) q
 unfold noteFrame;simp only[hf];rcases tr with h1|⟨T,oT,ts,h1,hTa,nT,hT0,hT,hdT,h3⟩
 ·refine tqa (tqf he hd h1 ?_);rw[if_neg `d]
  refine vR hfr hl hf he hd (Pj.mp h1).1 λh' T oT ts k1 k2 k3 k4 k5 k6 k7 k8=>?_;refine fin h' [a] (λb hb=>?_) (λb o hb hx q=>k1 b o hb (λz=>hx (by simp[z])) q) (λb o hx q=>k2 b o (λz=>hx (by simp[z])) q) {na,ha,_,_,k5,?_,?_,P7 hd _,.inr {T,oT,ts,by simp[(Pj.mp h1).1],k4,hN _ k3,hok.fresh k3,k6,k7,k8}}
  ·rcases O7.mp hb with rfl
   exact⟨na,ha,oe,vs,he,hd⟩
  ·rw[Obj.cls_mapFields];exact hc
  ·rw[mW];exact hdx
 ·refine tqa (tqf he hd h1 ?_);rw[if_pos (show(Value.ref T != Value.none)=true from by simp)]
  refine tqa (tqf hT hdT h3 ?_);rw[if_neg (show ¬ ((Value.none==rawInt L)=true) from by simp[rawInt])]
  refine tqa (wpAny_setField hT hdT (Pj.mp h3).1 ?_);have other:∀b,b≠T->(s.heap.update T (Obj.mapFields (·.setIfInBounds 3 Value.none))).get? b=s.heap.get? b:=λb hb=>PH _ _ (PZ hb);have noRec:∀b o,s.heap.get? b=some o->(∀vs,o.data≠.fields vs)->b≠T:=λb o hb hnf q=>by
   rw[q,hT] at hb;cases hb;exact hnf ts hdT
  have hz:(s.heap.update T (Obj.mapFields (·.setIfInBounds 3 Value.none))).objs.size=s.heap.objs.size:=Heap.size_after_update ..;refine vR (s:={s with heap:=s.heap.update T (Obj.mapFields (·.setIfInBounds 3 Value.none))}) hfr (hl.of_keeps λb o hb hnf=>{o,(other b (noRec b o hb hnf)).trans hb,rfl}) hf ((other a (PZ hTa)).trans he) hd (Pj.mp h1).1 λh' T' oT' ts' k1 k2 k3 k4 k5 k6 k7 k8=>?_
  have k3:s.heap.objs.size<=T':=by rw[<- hz];exact k3
  refine fin h' [a,T] (λb hb=>?_) (λb o hb hx q=>k1 b o hb (λz=>hx (by simp[z])) ((other b (λz=>hx (by simp[z]))).trans q)) (λb o hx q=>k2 b o (λz=>hx (by simp[z])) ((other b (λz=>hx (by simp[z]))).trans q)) {na,ha,_,_,k5,?_,?_,P7 hd _,.inr {T',oT',ts',by simp[(Pj.mp h1).1],k4,hN _ k3,hok.fresh k3,k6,k7,k8}}
  ·rcases OL.mp hb with rfl|hb
   ·exact⟨na,ha,oe,vs,he,hd⟩
   ·rcases O7.mp hb with rfl
    exact⟨nT,hT0,oT,ts,hT,hdT⟩
  ·rw[Obj.cls_mapFields];exact hc
  ·rw[mW];exact hdx
end
noncomputable def gJ (P:OX)(w:O6):oj:=λouter H s E e s'=>∃a C dx H',e=.ref a/\s'.os=s.os/\AllBare s'.gens/\Un (gi outer) [] H H' s.heap s'.heap/\fb P w H' s'.heap/\my (λb=>s.heap.get? b=none) C dx a s'.heap H'/\E (.ref C) dx H'
def my.imp {New New':Addr->Prop}{C a:Addr}{dx:Option Addr}{h:Heap}{H:Hp}(f:my New C dx a h H)(i:∀b,New b->New' b):my New' C dx a h H:=by
 obtain⟨na,ha,o,vs,h1,h2,h3,h4,tr⟩:=f;refine{i _ na,ha,o,vs,h1,h2,h3,h4,?_};rcases tr with t|⟨T,oT,ts,t1,t2,t3,t4⟩
 ·exact .inl t
 ·exact .inr {T,oT,ts,t1,t2,i _ t3,t4}
section
variable{P:OX}{w:O6}{K:OA}{mg:Str->Option Oz}{base:Heap}{N:List Str}{qual:Str}{scope:Scope}{f:Addr}{cd:Oz}{A:Pu}{outer:List Po}{s:OD}{H:Hp}{E:XK}
def Ct {pins:List (Addr×Obj)}{σ:L2.St}{H':Hp}{s':OD}{a C:Addr}{dx:Option Addr}(I:Inv (fL (gJ P w) P w K mg base N qual scope f cd A outer s H E) pins σ H' s')(hF:my (lj (fL (gJ P w) P w K mg base N qual scope f cd A outer s H E)) C dx a s'.heap H')(hE:E (.ref C) dx H') :
 (fL (gJ P w) P w K mg base N qual scope f cd A outer s H E).xe (.ref a) s':=by
 have hst:=I.stack;have hsz:s.heap.objs.size<=s'.heap.objs.size:=I.sz;have hL:∀b o,s.heap.get? b=some o->b∈gi (envOfC qual scope s.heap.objs.size f cd::outer)->b∈gi outer:=λb o q hb=>by
  rcases OL.mp (show b∈s.heap.objs.size::gi outer from hb) with e|e
  ·exact absurd (OQ q) (by rw[e];exact PR _)
  ·exact e
 unfold fL;dsimp only;unfold leaving;refine tqa (qF (P:=P) (w:=w) (New:=λb=>s.heap.get? b=none) I.ok.frames hst rfl (hF.imp λb z=>z.1) (λb z=>Qo (OI hsz z)) I.hok I.stkFree λh' ch hch u hok fl=>?_);have nch:∀b o,s.heap.get? b=some o->b∉ch:=λb o q z=>by have:=(hch b z).1;rw[q] at this;cases this
 have hb0:Un (gi outer) [] H H' s.heap s'.heap:=I.base;refine{a,C,dx,H',rfl,I.os,I.bare,{λb o q n hb hx=>?_,λb o q n hb hx=>?_,hb0.free,λb o q hx=>?_,hb0.tups,hb0.frzs,hb0.tbls},hok,fl,hE}
 ·exact u.keep b o (hb0.keep b o q n hb hx) (hb0.free b o q n hx) (λz=>hb (hL b o q z)) (nch b o q)
 ·obtain⟨sl,e⟩:=hb0.slot b o q n hb hx;obtain⟨sl',e'⟩:=u.any e (hb0.free b o q n hx) (nch b o q);exact⟨sl',e'⟩
 ·obtain⟨o',e⟩:=hb0.there b o q hx;exact u.there b o' e (nch b o q)
end
section
variable{X:Cx}{pins:List (Addr×Obj)}{σ:L2.St}{H H':Hp}{s s':OD}{E:XK}{e:Oz}
def Ay (I:Inv X pins σ H s)(hx:X.ex=[])(h:gJ X.prog X.w X.stack H s E e s'):∃a C dx H',e=.ref a/\Inv X pins σ H' s'/\my (lj X) C dx a s'.heap H'/\E (.ref C) dx H':=by
 obtain⟨a,C,dx,H',rfl,os,bare,un,hok,fl,q⟩:=h;refine{a,C,dx,H',rfl,I.call' os un hok bare (λb z=>absurd z `s),fl.imp λb z=>{?_,λp hp e=>?_},q}
 ·cases e:X.s₀.heap.get? b with
  |none=>rfl
  | some o =>
    obtain⟨o',e'⟩:=I.base.there b o e (by rw[hx];simp)
    rw[z] at e';cases e'
 ·have:=(I.pin p (Qe _ hp)).1;rw[e,z] at this;cases this
def uT {h':Heap}{ch:List Addr}(I:Inv X pins σ H s)(hch:∀b∈ch,X.s₀.heap.get? b=none/\(∃o vs,s.heap.get? b=some o/\o.data=.fields vs)/\∀p∈X.pn++pins,p.1≠b)(u:Un (gi X.stack) ch H H s.heap h')(hok:fb X.prog X.w H h'):Inv X pins σ H {s with heap:=h'}:=by
 obtain⟨m,⟨o,es,ep,ho,hd,r⟩,hl⟩:=id I.loc;have neL:X.env.locals∉ch:=λz=>by
  obtain⟨o',vs,e,d⟩:=(hch _ z).2.1;rw[ho] at e;cases e;rw[hd] at d;cases d
 have neC:∀x c,X.env.cells.lookup x=some c->c∉ch:=λx c e z=>by
  obtain⟨o',vs,e',d⟩:=(hch _ z).2.1;obtain⟨v,o2,e2,d2⟩:=I.cell x c e;rw[e2] at e';cases e';rw[d2] at d;cases d
 have n0:∀b o,X.s₀.heap.get? b=some o->b∉ch:=λb o e z=>by rw[(hch b z).1] at e;cases e
 have nst:∀b o,X.s₀.heap.get? b=some o->b∉X.fs->b∉gi X.stack:=λb o e n z=>(OL.mp (I.stkSub b z)).elim (λq=>absurd (OQ e) (by rw[q];exact Nat.not_lt.mpr I.ok.above)) n
 obtain⟨sl,hL⟩:=u.any ho I.free neL;have cellK:∀x c,X.env.cells.lookup x=some c->∀v,s.heap.IsCell c v->h'.IsCell c v:=λx c e v ⟨o,ho,hd⟩=>by
  obtain⟨sl,q⟩:=u.any ho (I.freeC x c e) (neC x c e);exact{_,q,hd}
 refine{I.ok,I.os,I.bare,{λb o e n hb hx=>?_,λb o e n hb hx=>?_,I.base.free,λb o e hx=>?_,I.base.tups,I.base.frzs,I.base.tbls},{m,{_,es,ep,hL,hd,r},λi x v e1 e2 e3=>?_},λx c e=>?_,I.free,I.freeC,λp hp=>?_,hok,I.len}
 ·exact u.keep b o (I.base.keep b o e n hb hx) (I.base.free b o e n hx) (nst b o e hb) (n0 b o e)
 ·obtain⟨sl,e1⟩:=I.base.slot b o e n hb hx;obtain⟨sl',e2⟩:=u.any e1 (I.base.free b o e n hx) (n0 b o e);exact⟨sl',e2⟩
 ·obtain⟨o',e1⟩:=I.base.there b o e hx;exact u.there b o' e1 (n0 b o e)
 ·obtain⟨u',r',l⟩:=hl i x v e1 e2 e3;refine{u',r',?_};rcases l with l|⟨k,c,e,z⟩
  ·exact .inl l
  ·exact .inr {k,c,e,cellK x c e _ z}
 ·obtain⟨v,z⟩:=I.cell x c e;exact{v,cellK x c e v z}
 ·obtain⟨e,n,ne,nf,d⟩:=I.pin p hp;exact{u.keep p.1 p.2 e n (λz=>(OL.mp (I.stkSub _ z)).elim ne nf) λz=>(hch _ z).2.2 p hp rfl,n,ne,nf,d}
def sg {a:Addr}{o:HO}(I:Inv X pins σ H s)(hx:X.ex=[])(hn:H a=none)(h0:X.s₀.heap.get? a=none)(hf:∃ob vs,s.heap.get? a=some ob/\ob.data=.fields vs)(hp:∀p∈X.pn++pins,p.1≠a)(new:dg X.prog X.w (upd H a o) s.heap a o):Inv X pins σ (upd H a o) s:=by
 obtain⟨ob,vs,hob,hd⟩:=hf;have ne:∀b u,H b=some u->b≠a:=λb u e=>bc e hn;refine{I.ok,I.os,I.bare,{I.base.keep,I.base.slot,λb o e n hx=>?_,I.base.there,λb xs e=>?_,λb o u e=>?_,λb ps e=>?_},I.loc,I.cell,?_,λx c e=>?_,λp hp'=>?_,λb u e=>?_,I.len}
 ·rw[aN (λz=>by rw[z,h0] at e;cases e)];exact I.base.free b o e n hx
 ·have q:=I.base.tups b xs e;rw[aN (ne b _ q)];exact q
 ·have q:=I.base.frzs b o u e;rw[aN (ne b _ q)];exact q
 ·obtain⟨m,q⟩:=I.base.tbls b ps e;exact{m,by rw[aN (ne b _ q)];exact q}
 ·obtain⟨m,⟨oL,es,ep,ho,hdL,_⟩,_⟩:=id I.loc;rw[aN (λz=>by rw[z,hob] at ho;cases ho;rw[hd] at hdL;cases hdL)];exact I.free
 ·obtain⟨v,o2,e2,d2⟩:=I.cell x c e;rw[aN (λz=>by rw[z,hob] at e2;cases e2;rw[hd] at d2;cases d2)];exact I.freeC x c e
 ·obtain⟨e,n,r⟩:=I.pin p hp';exact{e,by rw[aN (hp p hp')];exact n,r}
 ·by_cases hb:b=a
  ·subst hb;rw[bW] at e;cases e;exact new
  ·rw[aN hb] at e;exact(I.hok b u e).stay (λc v _ q=>q) (λc q=>by rw[aN (ne c _ q)];exact q) λc xs q=>by rw[aN (ne c _ q)];exact q
end
noncomputable def jr {α:Type}(r:Res α)(k:α->Mem->Prop)(kx:D->Mem->Prop):Prop:=match r with
 |.ok a M=>k a M
 |.err x M=>kx x M
 |.bad=>False
def I8 {α:Type}{r:Res α}{k:α->Mem->Prop}{kx:D->Mem->Prop}(h:ai r k):jr r k kx:=by
 cases r with
 |ok a M=>exact h
 |err=>exact h.elim
 |bad=>exact h
noncomputable def yB (fa:Fa)(K:OA)(μ:Mu)(H:Hp)(E:XK)(x:D)(M':Mem):Prop:=∀C dx c p H' μ',Ext μ H μ' H'->RelM fa K μ' H' M'->x=.exc c p->fa (fz c)=some C->yA H' c dx p->E (.ref C) dx H'
def D4 {P:OX}{w:O6}{X:Cx}:Passes (gJ P w) X E0:=λ_ _ _ _ _ _ _ h=>let{_,_,_,_,_,_,_,_,_,_,z}:=h;z.elim
noncomputable def HC (fa:Fa)(K:OA)(k:Nat)(call:List D->Mem->Res D):Sp:=λvs H Q E=>vs.length=k/\∃μ M ds,RelM fa K μ H M/\aR fa K μ H ds vs/\jr (call ds M) (bg fa K μ H Q) (yB fa K μ H E)
noncomputable def jz (fa:Fa)(P:OX)(w:O6)(K:OA)(mg:Str->Option Oz)(base:Heap)(n:Nat)(f:Nat)(call:List D->Mem->Res D):Prop:=
 (∀ds M,call ds M=.bad)\/∃(ad:Addr) (fd:QH) (ps:List Str),fa f=some ad/\PySem.W.keepIn K (.ref ad)=true/\Binds K fd ps []/\(∀ds M,ds.length≠ps.length->call ds M=.bad)/\lp P w K mg base (gJ P w) (n+4) ad fd ps (HC fa K ps.length call)
section
variable{fa:Fa}{X:Cx}{a b d:Expr}{ga gb gd:Env->Mem->Res D}{pos p:Pos}{es:List Expr}{gs:Env->Mem->Res (List D)}{n:Nat}
def A5 {call:List D->Mem->Res D}{P:D->Mem->Prop}{r:Res (List D)}(hb:∀ds M,call ds M=.bad)(h:ai (r.bind λds M=>call ds M) P):False:=by
 obtain⟨ds,M,_,q⟩:=aV h;rw[hb] at q;exact q
def sq {call:List D->Mem->Res D}{k:Nat}{σ:L2.St}{H:Hp}{Q:VK}{μ:Mu}{Z:Env}{M:Mem}(hE:bt fa X.K μ H σ Z)(hM:RelM fa X.K μ H M)(h:ai ((gs Z M).bind λds M=>call ds M) (bg fa X.K μ H Q))
 (hk:∀ds M1,ds.length≠k->call ds M1=.bad):DM (HC fa X.K k call) [] E0 (tA fa X.K gs) σ H Q:=by
 refine tW hE hM h λds M1 vs H1 μ1 x1 hE1 hM1 r1 h1=>?_;rw[List.append_nil];refine{?_,μ1,M1,ds,hM1,r1,I8 (kD h1 x1)};rw[r1.length];by_cases hl:ds.length=k
 ·exact hl
 ·rw[hk ds M1 hl] at h1;exact h1.elim
def Kd {f:Nat}{x:Str}{call:List D->Mem->Res D}(C:jz fa X.prog X.w X.K X.mg X.base n f call)(hr:cv (n+4) X.A)(hg:Gl X x)(hm:∀ad,fa f=some ad->X.mg x=some (.ref ad))(hs:DA fa X (a::es) gs)
 (hdb:(x==("__debug__":Str))=false) (he:starEach (a::es) X.env=(false,eval a X.env)::starEach es X.env) (hpl:(backTo pos (starEach es X.env)).any (·.1)=false) :
 DE fa X (.Call (.Name x p) (a::es) [] pos) (λZ M=>(gs Z M).bind λds M=>call ds M):=by
 rcases C with hb|⟨ad,fd,ps,h1,h2,h3,h4,F⟩
 ·exact λpins s σ H Q I ⟨μ,Z,M,hE,hM,h⟩=>(A5 hb h).elim
 ·exact bG (FY F hr hg (hm ad h1) h2 h3 .nil D4 hs hdb he hpl) λσ H Q ⟨μ,Z,M,hE,hM,h⟩=>sq hE hM h h4
def GV {i:Nat}{x:Str}{call:Nat->List D->Mem->Res D}(C:∀f,jz fa X.prog X.w X.K X.mg X.base n f (call f))(hr:cv (n+4) X.A)(hN:X.N[i]?=some x)(hv:sM X.env.scope x)(hs:DA fa X (a::es) gs)
 (hd:(x==("__debug__":Str))=false) (hcd:(x==("__classdict__":Str))=false) (he:starEach (a::es) X.env=(false,eval a X.env)::starEach es X.env) (hpl:(backTo pos (starEach es X.env)).any (·.1)=false) :
 DE fa X (.Call (.Name x p) (a::es) [] pos) (λZ M=>match Z[i]?.getD none with|some (.fn f)=>(gs Z M).bind λds M=>call f ds M|_=>.bad):=by
 intro pins s σ H Q I ⟨μ,Z,M,hE,hM,h⟩;dsimp only at h;cases e:Z[i]?.getD none with
 |none=>rw[e] at h;exact h.elim
 | some df =>
   cases df with
   | fn f =>
     rw[e] at h;simp only at h;have e':Z[i]?=some (some (.fn f)):=by
      cases q:Z[i]? with
      |none=>rw[q] at e;cases e
      |some o=>rw[q] at e;simp at e;rw[e]
     obtain⟨v,hv1,hv2⟩:=hE.at' i _ e';obtain⟨ad,rfl,had⟩:=hv2;rcases C f with hb|⟨ad',fd,ps,h1,h2,h3,h4,F⟩
     ·exact(A5 hb h).elim
     ·rw[had] at h1;cases h1;refine wpAny_Call_Name_kw (a9 (pK hN hv hd hcd pins s σ H (λv H'=>v=.ref ad/\H'=H) I {_,hv1,rfl,rfl}) λu s1 ⟨v,H1,I1,r1,e1,e2⟩=>?_);subst e1 e2;obtain rfl:u=Value.ref ad:=r1;refine PySem.W.callWith_K (h₀:=X.base) I1.ok.mod.kin h2 (a9 (hs pos pins s1 σ H1 _ I1 (sq hE hM h h4)) λus s2 ⟨vs,H2,I2,r,q⟩=>{I2.kIn,?_}) he hpl;exact zG F hr h3 .nil D4 I2 r q
   |_=>rw[e] at h;exact h.elim
def EB (f:xb){x:Str}{id:String}(hc:di X (.builtin id) (qC fa X.K f))(hg:Gl X x)(hm:X.mg x=none)(hv:bootBuiltins x=some (.builtin id))(hs:DA fa X (a::es) gs)(hn:x≠"__name__")(hdb:(x==("__debug__":Str))=false)
 (he:starEach (a::es) X.env=(false,eval a X.env)::starEach es X.env) (hpl:(backTo pos (starEach es X.env)).any (·.1)=false):DE fa X (.Call (.Name x p) (a::es) [] pos) (λZ M=>(gs Z M).bind λds M=>eY f ds M):=
 bG (iT hc hg hm hv hs hn hdb he hpl) λσ H Q ⟨μ,Z,M,hE,hM,h⟩=>tW hE hM h λds M1 vs H1 μ1 x1 hE1 hM1 r1 h1=>{μ1,M1,ds,hM1,r1,kD h1 x1}
def AO (f:xb){x:Str}{T:String}(hc:di X (.type T) (qC fa X.K f))(hg:Gl X x)(hm:X.mg x=none)(hv:bootBuiltins x=some (.type T))(hs:DA fa X (a::es) gs)(hn:x≠"__name__")(hdb:(x==("__debug__":Str))=false)
 (he:starEach (a::es) X.env=(false,eval a X.env)::starEach es X.env) (hpl:(backTo pos (starEach es X.env)).any (·.1)=false):DE fa X (.Call (.Name x p) (a::es) [] pos) (λZ M=>(gs Z M).bind λds M=>eY f ds M):=
 bG (zS hc hg hm hv hs hn hdb he hpl) λσ H Q ⟨μ,Z,M,hE,hM,h⟩=>tW hE hM h λds M1 vs H1 μ1 x1 hE1 hM1 r1 h1=>{μ1,M1,ds,hM1,r1,kD h1 x1}
def Kb (t:Ty)(ht:∀c,t≠.own c){x:Str}{p1 p2:Pos}(ha:DE fa X a ga)(hg:Gl X "isinstance")(hm:X.mg "isinstance"=none)(hv:bootBuiltins "isinstance"=some (.builtin "isinstance"))(hgt:Gl X x)(hmt:X.mg x=none)(hvt:bootBuiltins x=some (.type (tyName t)))
 (hn:x≠"__name__") (hdb:(x==("__debug__":Str))=false)
 (he:starEach [a,.Name x p1] X.env=(false,eval a X.env)::starEach [.Name x p1] X.env):DE fa X (.Call (.Name "isinstance" p2) [a,.Name x p1] [] pos) (λZ M=>(ga Z M).bind λx M=>(cK M (bI t x)).bind λb M=>.ok (.bl b) M):=
 bG (iT (JR (fa:=fa) t ht) hg hm hv (bX ha (bX (wu hgt hmt hvt (v:=.ty (tyName t)) rfl hn hdb) eB `r) he) `d `d he `r) λσ H Q ⟨μ,Z,M,hE,hM,h⟩=>t1 hE hM h λx M1 v H1 μ1 x1 hE1 hM1 r1 h1=>by
  obtain⟨b,e,q⟩:=pP h1;exact{μ1,M1,x,v,b,rfl,hM1,r1,e,ba (v:=.bl b) hM1 (q.ext x1) rfl}
noncomputable def gT (fa:Fa)(K:OA)(t:dB):TG:=λv σ H Q=>∃μ Z M d ρ1,bt fa K μ H σ Z/\RelM fa K μ H M/\Rep fa K μ H d v/\cX t d Z=some ρ1/\∀σ1,bt fa K μ H σ1 ρ1->Q σ1 H
def zQ {tg:Expr}{g g':TG}(h:PG X tg g)(i:∀v σ H Q,g' v σ H Q->g v σ H Q):PG X tg g':=λpins s σ H v u Q I r q=>h pins s σ H v u Q I r (i v σ H Q q)
def wo {tg:List Expr}{g g':qm}(h:vF X tg g)(i:∀v σ H Q,g' v σ H Q->g v σ H Q):vF X tg g':=λpins s σ H v u Q I r q=>h pins s σ H v u Q I r (i v σ H Q q)
def GP {i:Nat}{x:Str}(hN:X.N.Nodup)(hi:X.N[i]?=some x)(hx:Loc X.env.scope x)(hf:X.fn x=true\/X.env.scope.names.lookup x=some .local):PG X (.Name x pos) (gT fa X.K (.one i)):=
 zQ (wq hN hi hx hf) λv σ H Q ⟨μ,Z,M,d,ρ1,hE,hM,r,e,k⟩=>by
  have e':Z.set i (some d)=ρ1:=OG e;subst e';exact k _ (hE.set r)
noncomputable def JN (fa:Fa)(K:OA)(l:List Nat):qm:=λvs σ H Q=>∃μ Z M ds ρ1,bt fa K μ H σ Z/\RelM fa K μ H M/\aR fa K μ H ds vs/\eP l ds Z=some ρ1/\∀σ1,bt fa K μ H σ1 ρ1->Q σ1 H
inductive kY (X:Cx):List Nat->List Expr->Prop
 |nil:kY X [] []
 |cons {i:Nat}{x:Str}{p:Pos}{l:List Nat}{ns:List Expr} (hi:X.N[i]?=some x) (hx:Loc X.env.scope x) (hf:X.fn x=true\/X.env.scope.names.lookup x=some .local) (r:kY X l ns):kY X (i::l) (.Name x p::ns)
def kY.each {l:List Nat}{ns:List Expr}(h:kY X l ns):(assignEach ns X.env).length=l.length/\(assignEach ns X.env).findIdx? (·.1)=none:=by
 induction h with
 |nil=>exact⟨rfl,rfl⟩
 | cons hi hx hf r ih =>
   rename_i i x p l ns;have e:assignEach (.Name x p::ns) X.env=(false,assign (.Name x p) X.env)::assignEach ns X.env:=rfl;rw[e];refine{by simp[ih.1],?_}
   rw[List.findIdx?_cons];simp[ih.2]
def C0 (hN:X.N.Nodup){l:List Nat}{ns:List Expr}(h:kY X l ns):vF X ns (JN fa X.K l):=by
 induction h with
 | nil =>
   refine wo FX λvs σ H Q ⟨μ,Z,M,ds,ρ1,hE,hM,r,e,k⟩=>?_;cases ds with
   | nil =>
     obtain rfl:vs=[]:=r;have e':Z=ρ1:=OG e;subst e';exact{rfl,k _ hE}
   |cons=>cases e
 | cons hi hx hf r ih =>
   refine wo (Ca (wq hN hi hx hf) ih `r) λvs σ H Q ⟨μ,Z,M,ds,ρ1,hE,hM,r,e,k⟩=>?_
   cases ds with
   |nil=>cases e
   | cons d ds =>
     obtain⟨v,vr,rfl,r1,r2⟩:=r;exact{v,vr,rfl,μ,_,M,ds,ρ1,hE.set r1,hM,r2,e,k}
def mr:∀{l:List Nat}{ds:List D}{Z ρ1:Env},eP l ds Z=some ρ1->ds.length=l.length
 |[],[],_,_,_=>rfl
 |_::_,[],_,_,h=>by cases h
 |[],_::_,_,_,h=>by cases h
 | _ :: l, _ :: ds, _, _, h => by
   have:=mr (l:=l) (ds:=ds) h;simp[this]
def J8 (hc:X.calm=true)(hN:X.N.Nodup){l:List Nat}{ns:List Expr}{k:Nat}(h:kY X l ns):PG X (.Tuple ns k pos) (gT fa X.K (.tup l)):=
 zQ (IC (n:=l.length) hc (C0 (fa:=fa) hN h) h.each.1 h.each.2) λv σ H Q ⟨μ,Z,M,d,ρ1,hE,hM,r,e,k⟩=>by
  cases d with
  | tup ds =>
    obtain⟨a,vs,rfl,hq,r⟩:=r;exact{a,vs,rfl,hq,by rw[r.length];exact mr e,μ,Z,M,ds,ρ1,hE,hM,r,e,k}
  |_=>cases e
end
section
variable{fa:Fa}{X:Cx}{a b d:Expr}{ga gb gd:Env->Mem->Res D}{pos p:Pos}{es:List Expr}{gs:Env->Mem->Res (List D)}{n:Nat}
def J5 {tg:Expr}{t:dB}(ha:DE fa X a ga)(hg:PG X tg (gT fa X.K t))(hs:swapsWithSole [tg] a pos.line X.env=pure false)(hw:swappedStores [tg] a X.env=pure none)(h1:(assignEach [tg] X.env).map (·.2)=[assign tg X.env]) :
 DS fa X (.Assign [tg] a pos) (λZ M=>(ga Z M).bind λx M=>(cK M (cX t x Z)).bind λρ1 M=>.ok (.next ρ1) M):=
 fQ (uo ha hg hs hw h1) λD σ H ⟨μ,Z,M,hE,hM,h⟩=>t1 hE hM h λx M1 v H1 μ1 x1 hE1 hM1 r1 h1=>by
  obtain⟨ρ1,M2,e,q⟩:=aV h1;cases eb:cX t x Z with
  |none=>rw[eb] at e;cases e
  | some ρ2 =>
    rw[eb] at e;cases e;exact{μ1,Z,M1,x,ρ1,hE1,hM1,r1,eb,λσ1 hE2=>q σ1 H1 μ1 x1 hE2 hM1}
def rG {D':Ends}{μ:Mu}{H:Hp}{σ:L2.St}{Z:Env}{M:Mem}{k:Nat}{ad:Addr}{ws:List V}{ds:List D}(hE:bt fa X.K μ H σ Z)(hM:RelM fa X.K μ H M)(hk:μ.pub k=some ad)(r:aR fa X.K μ H ds ws)
 (q:∀σ' H' μ',Ext μ H μ' H'->bt fa X.K μ' H' σ' Z->RelM fa X.K μ' H' (M.set k ds)->D'.nx σ' H'):D'.nx σ (upd H ad (.lst ws)):=
 q σ _ μ (Ext.write (vs:=ws) hM hk) (hE.ext (Ext.write (vs:=ws) hM hk)) (hM.write hk r)
def J2 (ha:DE fa X a ga)(hb:DE fa X b gb)(hd:DE fa X d gd){p2:Pos}
 (h0:∀v,assign (.Subscript a b p2) X.env v=(do
  let ov <- holding [v] (eval a X.env)
  let iv <- holding [v,ov] (eval b X.env)
  standAt p2
  holding [v,ov,iv] (setItem ov iv v)
  release [v,ov,iv] [])) (hs:swapsWithSole [.Subscript a b p2] d pos.line X.env=pure false) (hw:swappedStores [.Subscript a b p2] d X.env=pure none) (h1:(assignEach [.Subscript a b p2] X.env).map (·.2)=[assign (.Subscript a b p2) X.env]) :
 DS fa X (.Assign [.Subscript a b p2] d pos) (λZ M=>(gd Z M).bind λz M=>(ga Z M).bind λx M=>(gb Z M).bind λy M=>match x,y with
  | .cell k, .int n => match M[k]? with
    | some ds => match bw ds.length n with
      |some j=>.ok (.next Z) (M.set k (ds.set j z))
      |none=>.bad
    |none=>.bad
  |_,_=>.bad):=
 fQ (uo hd (ID ha hb set_list h0) hs hw h1) λD' σ H ⟨μ,Z,M,hE,hM,h⟩=>t1 hE hM h λz M1 v H1 μ1 x1 hE1 hM1 r1 h1=>t2 hE1 hM1 h1 λx y M2 vx vy H2 μ2 x2 hE2 hM2 rx ry h2=>by
  have key:∀k n,x=.cell k->y=.int n->DY vx vy v H2 λH3=>D'.nx σ H3:=λk n e1 e2=>by
   subst e1 e2;dsimp only at h2;cases e:M2[k]? with
   |none=>rw[e] at h2;exact h2.elim
   | some ds =>
     rw[e] at h2;dsimp only at h2;cases ej:LD.bw ds.length n with
     |none=>rw[ej] at h2;exact h2.elim
     | some j =>
       rw[ej] at h2;obtain⟨ad,rfl,hk⟩:=rx;obtain⟨ad',ws,h3,h4,h5⟩:=hM2.at' k ds e;rw[hk] at h3;cases h3;have q:∀σ' H' μ',Ext μ H μ' H'->bt fa X.K μ' H' σ' Z->RelM fa X.K μ' H' (M2.set k (ds.set j z))->D'.nx σ' H':=h2;refine{ad,ws,n,j,rfl,ry,h4,by rw[h5.length];exact ej,rG hE2 hM2 hk (h5.set j (r1.ext x2)) λσ' H' μ' x' e' m'=>q σ' H' μ' ((x1.trans x2).trans x') e' m'}
  cases x with
  | cell k => cases y with
    |int n=>exact key k n rfl rfl
    |_=>exact h2.elim
  |_=>exact h2.elim
def J6 (ha:DE fa X a ga)(hd:DE fa X d gd){apos cpos:Pos}(hbase:attributeBase a "append" X.env (eval a X.env)=eval a X.env)(hline:(apos.endLine==cpos.line)=true)(hs:starEach [d] X.env=[(false,eval d X.env)])
 (hsw:swapsWith (.Call (.Attribute a "append" apos) [d] [] cpos) none pos.line X.env=pure false) :
 DS fa X (.Expr (.Call (.Attribute a "append" apos) [d] [] cpos) pos) (λZ M=>(ga Z M).bind λx M=>(gd Z M).bind λz M=>match x with
  | .cell k => match M[k]? with
    |some ds=>if ds.length<sz then .ok (.next Z) (M.set k (ds++[z])) else .bad
    |none=>.bad
  |_=>.bad):=
 fQ (nz (xB PySem.F.plainAttrs_list PySem.F.slot_list_append PySem.F.type_list_append r9 ha (bX hd eB hs) hbase (by rw[hs];rfl) hline hs `r) hsw) λD' σ H ⟨μ,Z,M,hE,hM,h⟩=>by
  obtain⟨x,M1,e1,h1⟩:=aV h;obtain⟨z,M2,e2,h2⟩:=aV h1;cases x with
  | cell k =>
    dsimp only at h2;cases e:M2[k]? with
    |none=>rw[e] at h2;exact h2.elim
    | some ds =>
      rw[e] at h2;dsimp only at h2;split at h2
      ·next hz=>
       have q:∀σ' H' μ',Ext μ H μ' H'->bt fa X.K μ' H' σ' Z->RelM fa X.K μ' H' (M2.set k (ds++[z]))->D'.nx σ' H':=h2;refine{μ,Z,M,hE,hM,?_};rw[e1];intro vx H1 μ1 x1 hM1 rx;obtain⟨ad,rfl,hk⟩:=rx;obtain⟨ds1,ws1,_,hH1,_⟩:=hM1.mu_lt hk;refine{.inl {rfl,ws1,c9.of hH1},μ1,Z,M1,hE.ext x1,hM1,?_};rw[e2];intro vz H2 μ2 x2 hM2 rz;obtain⟨ad',ws,h3,h4,h5⟩:=hM2.at' k ds e;rw[x2.mu k ad hk] at h3;cases h3;refine{ad,ws,vz,rfl,rfl,h4,by rw[h5.length,<- dN];exact hz,?_}
       exact rG ((hE.ext x1).ext x2) hM2 (x2.mu k ad hk) (h5.append (.one rz)) λσ' H' μ' x' e' m'=>q σ' H' μ' ((x1.trans x2).trans x') e' m'
      ·exact h2.elim
  |_=>exact h2.elim
def LK (ha:DE fa X a ga)(hs:swapsWith a none pos.line X.env=pure false):DS fa X (.Expr a pos) (λZ M=>(ga Z M).bind λ_ M=>.ok (.next Z) M):=
 fQ (nz ha hs) λD' σ H ⟨μ,Z,M,hE,hM,h⟩=>t1 hE hM h λx M1 v H1 μ1 x1 hE1 hM1 r1 h1=>h1 σ H1 μ1 x1 hE1 hM1
def J1 (ha:DE fa X a ga):DS fa X (.Return (some a) pos) (λZ M=>(ga Z M).bind λx M=>.ok (.ret x) M):=
 fQ (zM ha) λD' σ H ⟨μ,Z,M,hE,hM,h⟩=>by
  obtain⟨x,M1,e,q⟩:=aV h;refine{μ,Z,M,hE,hM,?_};rw[e];exact q
def GF:DS fa X (.Return none pos) (λ_ M=>.ok (.ret .non) M):=fQ FQ λD' σ H ⟨μ,Z,M,hE,hM,h⟩=>ba (v:=.non) hM h rfl
def GG:DS fa X (.Pass pos) (λZ M=>.ok (.next Z) M):=fQ FR λD' σ H ⟨μ,Z,M,hE,hM,h⟩=>h σ H μ .refl hE hM
def ni.ext {μ μ':Mu}{H H':Hp}{D':Ends}(x:Ext μ H μ' H'){fl:Fl}{M:Mem}(q:ni fa X μ H D' fl M):ni fa X μ' H' D' fl M:=by
 cases fl with
 |next ρ'=>exact λσ' H'' μ'' y e m=>q σ' H'' μ'' (x.trans y) e m
 |ret d=>exact bg.ext q x
 |exc x' ρ'=>exact XW.ext q x
def I9 {r:Res Fl}{μ μ':Mu}{H H':Hp}{D':Ends}(x:Ext μ H μ' H')(h:ai r (ni fa X μ H D')):ai r (ni fa X μ' H' D'):=aH h λfl M q=>q.ext x
def J3 {c:Expr}{gc:Env->Mem->Res Bool}{st sf:List Stmt}{gt gf:Env->Mem->Res Fl}(hc:DT fa X c gc)(ht:kZ fa X st gt)(hf:kZ fa X sf gf):DS fa X (.If c st sf pos) (λZ M=>(gc Z M).bind λk M=>if k then gt Z M else gf Z M):=
 fQ (Lc hc ht hf) λD' σ H ⟨μ,Z,M,hE,hM,h⟩=>zg hE hM h λk M1 H1 μ1 x1 hE1 hM1 h1=>by
  cases k with
  |true=>exact{μ1,Z,M1,hE1,hM1,I9 x1 h1}
  |false=>exact{μ1,Z,M1,hE1,hM1,I9 x1 h1}
def GD:kZ fa X [] (λZ M=>.ok (.next Z) M):=wm wj λD' σ H ⟨μ,Z,M,hE,hM,h⟩=>h σ H μ .refl hE hM
def CW {st:Stmt}{ss:List Stmt}{g:Env->Mem->Res Fl}{g':Env->Mem->Res Fl}(h1:DS fa X st g)(h2:kZ fa X ss g'):kZ fa X (st::ss) (λZ M=>(g Z M).bind λfl M=>match fl with
 |.next Z=>g' Z M
 |fl=>.ok fl M):=
 wm (oE h1 h2) λD' σ H ⟨μ,Z,M,hE,hM,h⟩=>by
  obtain⟨fl,M1,e,q⟩:=aV h;refine{μ,Z,M,hE,hM,?_};rw[e];cases fl with
  |next ρ1=>exact λσ1 H1 μ1 x1 hE1 hM1=>{μ1,ρ1,M1,hE1,hM1,I9 x1 q}
  |ret d=>exact q
  |exc x ρ1=>exact q
end
noncomputable def dW (fa:Fa)(K:OA)(μ0:Mu)(H0:Hp)(w:Walk)(J:It):Prop:=
 ∀(μ:Mu) (H:Hp) (M:Mem) (ds:List D),ExtW μ0 H0 μ H->RelM fa K μ H M->w M=some ds->(∀(i:Nat) (d:D),ds[i]?=some d->J.go i H/\∀x H',J.yld i H x H'->Ext μ H μ H'/\RelM fa K μ H' M/\Rep fa K μ H' d x)/\∀i,ds.length<=i->J.stop i H
noncomputable def tI (fa:Fa)(K:OA)(g:Env->Mem->Res Walk):TI:=λσ H R=>∃μ Z M,bt fa K μ H σ Z/\RelM fa K μ H M/\ai (g Z M) λw M'=>∀J H' μ',Ext μ H μ' H'->RelM fa K μ' H' M'->dW fa K μ' H' w J->R J H'
abbrev DI (fa:Fa)(X:Cx)(tg iter:Expr)(g:Env->Mem->Res Walk):Prop:=PI X tg iter (tI fa X.K g)
def yP {fa:Fa}{K:OA}{μ0 μ1:Mu}{H0 H1:Hp}{w:Walk}{J:It}(h:dW fa K μ0 H0 w J)(x:ExtW μ0 H0 μ1 H1):dW fa K μ1 H1 w J:=λμ H M ds y hM e=>h μ H M ds (x.trans y) hM e
section
variable{fa:Fa}{X:Cx}{tg a b d:Expr}{ga gb gd:Env->Mem->Res D}{pos p:Pos}{es:List Expr}{n:Nat}
def yQ {μ0:Mu}{H0:Hp}{dd:D}{ad:Addr}(h:Rep fa X.K μ0 H0 dd (.ref ad)):dW fa X.K μ0 H0 (λM=>fZ M dd) (Kv X.K ad):=λμ H M ds x hM e=>by
 obtain⟨ad',vs,ea,s,r⟩:=bS hM (Rep.extW x h) e;cases ea;refine{λi d hd=>?_,λi hi=>{vs,s,by rw[r.length];exact hi}}
 obtain⟨v,hv,rv⟩:=r.get hd;refine{⟨vs,v,s,hv⟩,λy H' ⟨e,hy⟩=>?_};subst e;have:=hy vs s;rw[hv] at this;cases this;exact{.refl,hM,rv}
def Be {μ0:Mu}{H0:Hp}{ds:List D}{ad:Addr}(h:Rep fa X.K μ0 H0 (.tup ds) (.ref ad)):dW fa X.K μ0 H0 (λ_=>some ds) (Kt X.K ad):=λμ H M ds' x hM e'=>by
 cases e';obtain⟨ad',vs,e,s,r⟩:=Rep.extW x h;cases e;refine{λi d hd=>?_,λi hi=>{vs,s,by rw[r.length];exact hi}}
 obtain⟨v,hv,rv⟩:=r.get hd;refine{⟨vs,v,s,hv⟩,λy H' ⟨e,hy⟩=>?_};subst e;have:=hy vs s;rw[hv] at this;cases this;exact{.refl,hM,rv}
def Bg {μ0:Mu}{H0:Hp}(lo:Int)(n:Nat):dW fa X.K μ0 H0 (λ_=>some ((List.range n).map λ(k:Nat)=>D.int (lo+(k:Int)))) (EN lo n):=λμ H M ds x hM e=>by
 cases e;refine{λi d hd=>?_,λi hi=>(show n<=i by simpa using hi)}
 rw[Ph] at hd;by_cases hi:i<n
 ·rw[List.getElem?_range hi] at hd;have e:D.int (lo+(i:Int))=d:=OG hd;subst e;refine{hi,λy H' ⟨e1,e2⟩=>?_};subst e1 e2;exact{.refl,hM,rfl}
 ·rw[PY (by simpa using hi)] at hd;cases hd
noncomputable def eF (ga:Env->Mem->Res D):Env->Mem->Res Walk:=λZ M=>(ga Z M).bind λx M=>match x with
 |.lst ds=>.ok (λ_=>some ds) M
 |.tup ds=>.ok (λ_=>some ds) M
 |.frz ds=>.ok (λ_=>some ds) M
 |.cell k=>.ok (λM=>M[k]?) M
 |_=>.bad
def J7 (ha:DE fa X a ga):DI fa X tg a (eF ga):=λpins s σ H R I ⟨μ,Z,M,hE,hM,h⟩=>by
 obtain⟨x,M1,e,q⟩:=aV h;have lst:(∀μ' H',RelM fa X.K μ' H' M1->∀v,Rep fa X.K μ' H' x v->∃ds,fZ M1 x=some ds)->(∀J H' μ',Ext μ H μ' H'->RelM fa X.K μ' H' M1->dW fa X.K μ' H' (λM=>fZ M x) J->R J H')->
  wpAny (model X.prog X.w) X.A (eval a X.env) (λv s1=>wpAny (model X.prog X.w) X.A (pyIter v) (EK X pins σ tg R) X.xe s1) X.xe s:=λhx q=>by
  refine FW ha pins s σ H R I {μ,Z,M,hE,hM,?_};rw[e];intro v H1 μ1 x1 m1 r1;obtain⟨ds,er⟩:=hx μ1 H1 m1 v r1;obtain⟨ad,vs,rfl,s1,r⟩:=bS m1 r1 er;exact{ad,rfl,⟨vs,s1⟩,q _ H1 μ1 x1 m1 (yQ r1)}
 cases x with
 |lst ds=>exact lst (λ_ _ _ _ _=>⟨ds,rfl⟩) q
 |frz ds=>exact lst (λ_ _ _ _ _=>⟨ds,rfl⟩) q
 | tup ds =>
   refine Iz ha pins s σ H R I {μ,Z,M,hE,hM,?_};rw[e];intro v H1 μ1 x1 m1 r1;obtain⟨ad,vs,rfl,s1,r⟩:=id r1;exact{ad,rfl,⟨vs,s1⟩,q _ H1 μ1 x1 m1 (Be r1)}
 |cell k=>exact lst (λμ' H' m' v ⟨ad,_,hk⟩=>let{ds,_,e,_}:=m'.mu_lt hk;⟨ds,e⟩) q
 |_=>exact q.elim
noncomputable def dn (ga:Env->Mem->Res D):Env->Mem->Res Walk:=λZ M=>(ga Z M).bind λx M=>match x with
 |.int n=>if -(2^62)<=n/\n<2^62 then .ok (λ_=>some ((List.range n.toNat).map λ(k:Nat)=>D.int (k:Int))) M else .bad
 |_=>.bad
def GN (ha:DE fa X a ga)(hg:Gl X "range")(hm:X.mg "range"=none)(hs:starEach [a] X.env=[(false,eval a X.env)]):DI fa X tg (.Call (.Name "range" p) [a] [] pos) (dn ga):=λpins s σ H R I ⟨μ,Z,M,hE,hM,h⟩=>by
 refine zP hg hm (bX ha eB hs) hs pins s σ H R I ?_;refine t1 hE hM h λx M1 v H1 μ1 x1 hE1 hM1 r1 h1=>?_;cases x with
 | int n =>
   dsimp only at h1;split at h1
   ·next c=>
    obtain rfl:v=.int n:=r1;refine{n,rfl,c.1,c.2,h1 _ H1 μ1 x1 hM1 ?_};have:=Bg (fa:=fa) (X:=X) (μ0:=μ1) (H0:=H1) 0 n.toNat;simpa using this
   ·exact h1.elim
 |_=>exact h1.elim
noncomputable def ic (t:dB)(gb:Env->Mem->Res Fl):Fl->D->Mem->Res Fl:=λfl d M=>match fl with
 |.next Z=>(cK M (cX t d Z)).bind λρ1 M=>gb ρ1 M
 |fl=>.ok fl M
def Fl.out:Fl->Bool
 |.next _=>false
 |_=>true
def l5 {t:dB}{gb:Env->Mem->Res Fl}{fl:Fl}{w:Walk}{P:Fl->Mem->Prop}(ho:fl.out=true):∀(n i:Nat) (M:Mem),ai (fG (ic t gb) w n i fl M) P->P fl M
 |0,_,_,h=>h.elim
 | n + 1, i, M, h => by
   unfold fG at h;cases e:w M with
   |none=>rw[e] at h;exact h.elim
   | some ds =>
     rw[e] at h;dsimp only at h;cases e2:ds[i]? with
     |none=>rw[e2] at h;exact h
     | some d' =>
       rw[e2] at h;cases fl with
       |next Z=>cases ho
       |ret d=>exact l5 ho n (i+1) M h
       |exc x Z=>exact l5 ho n (i+1) M h
def J4 {t:dB}{body:List Stmt}{gw:Env->Mem->Res Walk}{gb:Env->Mem->Res Fl}(hp:PassesOwn (model X.prog X.w) X.A X.env X.xe)(hc:X.calm=true)(hi:DI fa X tg a gw)(hg:PG X tg (gT fa X.K t))(hb:kZ fa X body gb)
 (hs:∀x,foldedSetIterable a X.env x=pure x):DS fa X (.For tg a body [] pos) (λZ M=>(gw Z M).bind λw M=>dX (ic t gb) w (.next Z) M):=
 fQ (Iw hp hc hi hg hb hs) λD' σ H ⟨μ,Z,M,hE,hM,h⟩=>by
  obtain⟨w,M1,e,q⟩:=aV h;refine{μ,Z,M,hE,hM,?_};rw[e];intro J H1 μ1 x1 hM1 wk;have hE1:=hE.ext x1;refine{λi m σ' H'=>∃μ' ρ' M',Ext μ1 H1 μ' H'/\bt fa X.K μ' H' σ' ρ'/\RelM fa X.K μ' H' M'/\ai (fG (ic t gb) w m i (.next ρ') M') (ni fa X μ H D'),
   {_,μ1,Z,M1,.refl,hE1,hM1,q},?_}
  rintro i m σ2 H2 ⟨μ2,ρ2,M2,x2,hE2,hM2,q2⟩;cases m with
  |zero=>exact q2.elim
  | succ m =>
    unfold fG at q2;cases e2:w M2 with
    |none=>rw[e2] at q2;exact q2.elim
    | some ds =>
      rw[e2] at q2;dsimp only at q2;obtain⟨go,stop⟩:=wk μ2 H2 M2 ds x2.toExtW hM2 e2;cases ed:ds[i]? with
      | none =>
        rw[ed] at q2;exact .inl {stop i (List.getElem?_eq_none_iff.mp ed),q2 σ2 H2 μ2 (x1.trans x2) hE2 hM2}
      | some d =>
        rw[ed] at q2;obtain⟨g1,g2⟩:=go i d ed;refine .inr {g1,λσ' H'=>∃μ' ρ' M',Ext μ1 H1 μ' H'/\bt fa X.K μ' H' σ' ρ'/\RelM fa X.K μ' H' M'/\ai (fG (ic t gb) w m (i+1) (.next ρ') M') (ni fa X μ H D'),λσ' H' z=>{m,`a,z},λy H3 hy=>?_}
        obtain⟨x3,hM3,r3⟩:=g2 y H3 hy;have q2:ai (((cK M2 (cX t d ρ2)).bind λρ1 M=>gb ρ1 M).bind (fG (ic t gb) w m (i+1))) (ni fa X μ H D'):=q2;obtain⟨fl,M4,e4,q4⟩:=aV q2;obtain⟨ρ4,M5,e5,e6⟩:=fN e4;cases eb:cX t d ρ2 with
        |none=>rw[eb] at e5;cases e5
        | some ρ5 =>
          rw[eb] at e5;cases e5;refine{μ2,ρ2,_,d,ρ4,hE2.ext x3,hM3,r3,eb,λσ5 hE5=>{μ2,ρ4,_,hE5,hM3,?_}};rw[e6];cases fl with
          |next ρ6=>exact λσ6 H6 μ6 x6 hE6 hM6=>{μ6,ρ6,M4,(x2.trans x3).trans x6,hE6,hM6,q4}
          |ret d6=>exact(l5 rfl m (i+1) M4 q4).ext ((x1.trans x2).trans x3)
          |exc x6 ρ6=>exact(l5 rfl m (i+1) M4 q4).ext ((x1.trans x2).trans x3)
end
abbrev FF:Oz->OD->Prop:=λ_ _=>False
section
variable{prog:OX}{w:O6}{A:Pu}{s:OD}
def AU {elt:Expr}{gens:List Qf}{scope:Scope}{pos p:Pos}{k:Nat}{it acc:Oz}{env:Po}{R:Result->OD->Prop}{target:Expr}{body:Sem Unit}
 (heq:compTurn (.ListComp elt gens scope pos) k it acc env=(standAt p >>= λ_=>pyNext it >>= λr=>match r with
  |none=>pure (.done .next)
  |some v=>letOwnedTupleGo target it v >>= λ_=>assign target env v >>= λ_=>body >>= λ_=>again (.compLoop (.ListComp elt gens scope pos) k it acc env)))
 (I:Nat->OD->Prop)
 (turn:∀n s,I n s->wpAny (model prog w) A (pyNext it) (λr s₁=>match r with
  |none=>R (.ok .next) s₁
  |some v=>wpAny (model prog w) A (letOwnedTupleGo target it v) (λ_ s₂=>wpAny (model prog w) A (assign target env v) (λ_ s₃=>wpAny (model prog w) A body (λ_ s₄=>∃m,m<n/\I m s₄) FF s₃) FF s₂) FF s₁) FF s)
 (n:Nat) (h:I n s):codeAny (model prog w) A (.compLoop (.ListComp elt gens scope pos) k it acc env) R s:=by
 refine codeAny_loop rfl I (λn s hI=>?_) n h;show wpAny _ _ ((compTurn (.ListComp elt gens scope pos) k it acc env).onRaise (λx=>do noteFrame x env;theTreesLotGoes x)) _ _ s
 refine wpAny_noted ?_;rw[heq];refine wpAny_noRaise ?_;refine tqa (wpAny_standAt (tqa (a9 (turn n s hI) λr s₁ h₁=>?_)));cases r with
 |none=>exact tqb h₁
 | some v =>
   refine tqa (a9 h₁ λ_ s₂ h₂=>?_);exact tqa (a9 h₂ λ_ s₃ h₃=>tqa (a9 h₃ λ_ s₄ h₄=>tqb ⟨rfl,h₄⟩))
def Bx (elt target iter:Expr)(gs:List Qf)(scope:Scope)(pos:Pos)(it acc:Oz)(env:Po) :
 compTurn (.ListComp elt [{target,iter,[],0}] scope pos) 0 it acc env=(standAt iter.pos >>= λ_=>pyNext it >>= λr=>match r with
  |none=>pure (.done .next)
  |some v=>letOwnedTupleGo target it v >>= λ_=>assign target env v >>= λ_=>(eval elt env >>= λx=>call (.builtin "list.append") [acc,x] >>= λ_=>pure ()) >>= λ_=>again (.compLoop (.ListComp elt [{target,iter,[],0}] scope pos) 0 it acc env)):=`r
def turn_if (elt target iter c:Expr)(scope:Scope)(pos:Pos)(it acc:Oz)(env:Po) :
 compTurn (.ListComp elt [{target,iter,[c],0}] scope pos) 0 it acc env=(standAt iter.pos >>= λ_=>pyNext it >>= λr=>match r with
  |none=>pure (.done .next)
  |some v=>letOwnedTupleGo target it v >>= λ_=>assign target env v >>= λ_=>(isTrue c env (eval c env) >>= λok=>if ok=true then(eval elt env >>= λx=>call (.builtin "list.append") [acc,x] >>= λ_=>pure ()) else pure ()) >>= λ_=>again (.compLoop (.ListComp elt [{target,iter,[c],0}] scope pos) 0 it acc env)):=by
 rw[compTurn_list];refine congrArg _ (funext λ_=>congrArg _ (funext λr=>?_));cases r with
 |none=>rfl
 | some v =>
   simp only[List.forIn_cons,List.forIn_nil,if_true,bind_assoc,pure_bind];refine congrArg _ (funext λ_=>congrArg _ (funext λ_=>congrArg _ (funext λok=>?_)));cases ok<;>simp
def Bv (elt target iter t2 i2:Expr)(scope:Scope)(pos:Pos)(it acc:Oz)(env:Po) :
 compTurn (.ListComp elt [{target,iter,[],0},{t2,i2,[],0}] scope pos) 0 it acc env=(standAt iter.pos >>= λ_=>pyNext it >>= λr=>match r with
  |none=>pure (.done .next)
  |some v=>letOwnedTupleGo target it v >>= λ_=>assign target env v >>= λ_=>(eval i2 env >>= λx=>standAt i2.pos >>= λ_=>foldedSetIterable i2 env x >>= λx=>holding [x] (pyIter x) >>= λj=>runOwn (.compStart (.ListComp elt [{target,iter,[],0},{t2,i2,[],0}] scope pos) 1 j acc env) env >>= λ_=>pure ()) >>= λ_=>again (.compLoop (.ListComp elt [{target,iter,[],0},{t2,i2,[],0}] scope pos) 0 it acc env)):=by
 unfold compTurn;simp only[O9,bne_self_eq_false,Qj,if_false];refine bind_congr λ_=>bind_congr λr=>?_;cases r with
 |none=>rfl
 |some v=>simp
def Bw (elt target iter t2 i2:Expr)(scope:Scope)(pos:Pos)(it acc:Oz)(env:Po) :
 compTurn (.ListComp elt [{target,iter,[],0},{t2,i2,[],0}] scope pos) 1 it acc env=(standAt i2.pos >>= λ_=>pyNext it >>= λr=>match r with
  |none=>pure (.done .next)
  |some v=>letOwnedTupleGo t2 it v >>= λ_=>assign t2 env v >>= λ_=>(eval elt env >>= λx=>call (.builtin "list.append") [acc,x] >>= λ_=>pure ()) >>= λ_=>again (.compLoop (.ListComp elt [{target,iter,[],0},{t2,i2,[],0}] scope pos) 1 it acc env)):=by
 rfl
def mj (env:Po):∀(ns:List (Str×NameKind)) (cs:List (Str×Addr)),(∀y∈ns,y.2=.free->∃c,env.cells.lookup y.1=some c)->(∀x c,cs.lookup x=some c->env.cells.lookup x=some c)->
 ∃cl,(forIn ns cs λ(y:Str×NameKind) (r:List (Str×Addr))=>if (y.2==NameKind.free)=true then cellOf env y.1 >>= λa=>pure (ForInStep.yield ((y.1,a)::r)) else pure (ForInStep.yield r):Sem _)=pure cl/\
  (∀x c,cl.lookup x=some c->env.cells.lookup x=some c)/\(∀x c,cs.lookup x=some c->∃c',cl.lookup x=some c')/\∀y∈ns,y.2=.free->∃c,cl.lookup y.1=some c
 |[],cs,_,h2=>{cs,`s,h2,λx c e=>⟨c,e⟩,λy hy=>nomatch hy}
 | (n, k) :: ns, cs, h1, h2 => by
   by_cases hk:k=.free
   ·subst hk;obtain⟨a,ha⟩:=h1 (n,.free) OT rfl;have lk:∀x c,((n,a)::cs).lookup x=some c->env.cells.lookup x=some c:=λx c e=>by
     rw[Pn] at e;split at e
     ·next q=>cases e;rw[eq_of_beq q];exact ha
     ·exact h2 x c e
    obtain⟨cl,e,p1,p2,p3⟩:=mj env ns ((n,a)::cs) (λy hy=>h1 y (ON _ hy)) lk;refine{cl,?_,p1,λx c q=>?_,λy hy hf=>?_}
    ·rw[List.forIn_cons];have ec:cellOf env n=pure a:=by unfold cellOf;rw[ha]
     simp only[beq_self_eq_true,if_true,ec];exact e
    ·by_cases hx:x=n
     ·exact p2 x a (by rw[Pn,hx];simp)
     ·exact p2 x c (by rw[Pn,PJ.mpr hx];exact q)
    ·rcases OL.mp hy with z|z
     ·subst z;exact p2 n a (by simp[Pn])
     ·exact p3 y z hf
   ·obtain⟨cl,e,p1,p2,p3⟩:=mj env ns cs (λy hy=>h1 y (ON _ hy)) h2;refine{cl,?_,p1,p2,λy hy hf=>?_}
    ·rw[List.forIn_cons];have eb:(k==NameKind.free)=false:=by simpa using hk
     simp only[eb,Qj,if_false];exact e
    ·rcases OL.mp hy with z|z
     ·subst z;exact absurd hf hk
     ·exact p3 y z hf
def yt {scope:Scope}{env:Po}(h:∀y∈scope.names,y.2=.free->∃c,env.cells.lookup y.1=some c) :
 ∃cl,closureFor scope env=pure cl/\(∀x c,cl.lookup x=some c->env.cells.lookup x=some c)/\∀y∈scope.names,y.2=.free->∃c,cl.lookup y.1=some c:=by
 obtain⟨cl,e,p1,_,p3⟩:=mj env scope.names [] h (λx c q=>nomatch q);exact{cl,by unfold closureFor;simp only[bind_pure];exact e,p1,p3}
end
noncomputable def iG (X:Cx)(own bn:List Str)(scope:Scope)(cl:List (Str×Addr))(C:Addr)(fp:List Addr)(s:OD)(H:Hp):Cx:=
 {X with N:=own++bn,s₀:=s,H₀:=H,env:=compEnvC scope cl C X.env,outer:=X.stack,ex:=fp,fn:=λ_=>false,pn:=[],xe:=FF}
def mem_of_lookup {β:Type}:∀{l:List (Str×β)}{x:Str}{k:β},l.lookup x=some k->(x,k)∈l
 |[],_,_,h=>by cases h
 | (n, b) :: r, x, k, h => by
   rw[Pn] at h;split at h
   ·next q=>cases h;rw[eq_of_beq q];exact OT
   ·exact ON _ (mem_of_lookup h)
def ik {env:Po}:∀{names:List (Str×NameKind)}{x:Str}{k:NameKind},
 (names.map λ(n,k)=>if (k==NameKind.free&&env.scope.kind==.function&&env.kindOf n==some .cell) then(n,NameKind.cell) else(n,k)).lookup x=some k->
 ∃k0,(x,k0)∈names/\names.lookup x=some k0/\(k=k0\/(k0=.free/\k=.cell))
 |[],_,_,h=>by cases h
 | (n, k0) :: r, x, k, h => by
   have ih:=@ik env r x k;have h:List.lookup x ((if (k0==NameKind.free&&env.scope.kind==.function&&env.kindOf n==some .cell)=true then(n,NameKind.cell) else(n,k0))::_)=some k:=h;cases hx:x==n with
   | true =>
     have e:=eq_of_beq hx;subst e;refine{k0,OT,by simp[Pn],?_}
     split at h
     ·next c=>
      simp[Pn] at h;simp at c;exact .inr ⟨c.1.1,h.symm⟩
     ·simp[Pn] at h;exact .inl h.symm
   | false =>
     have h':List.lookup x (r.map λ(n,k)=>if (k==NameKind.free&&env.scope.kind==.function&&env.kindOf n==some .cell) then(n,NameKind.cell) else(n,k))=some k:=by
      split at h<;>simpa[Pn,hx] using h
     obtain⟨k1,h1,h2,h3⟩:=ih h';exact{k1,ON _ h1,by simp[Pn,hx];exact h2,h3}
def pO {α β:Type}{R:α->β->Prop}:∀{l:List α}{r:List β}{i:Nat}{x:α},QG R l r->l[i]?=some x->∃y,r[i]?=some y/\R x y
 |_,_,_,_,.nil,e=>by simp at e
 |_,_,0,_,.cons p _,e=>by simp at e;subst e;exact{_,rfl,p}
 | _, _, i + 1, x, .cons _ t, e => by
   obtain⟨y,h1,h2⟩:=pO (i:=i) (x:=x) t (by simpa using e)
   exact{y,by simpa using h1,h2}
structure jy (X:Cx) (own bn:List Str) (scope:Scope):Prop where
 kind:scope.kind=.function
 nocell:∀y∈scope.names,y.2≠.cell
 loc:∀y∈scope.names,y.2=.local->scope.names.lookup y.1=some .local
 free:∀y∈scope.names,y.2=.free->X.env.kindOf y.1=some .cell\/X.env.kindOf y.1=some .free
 dis:QG (λb x=>(b=x/\scope.names.lookup x≠some .local)\/scope.names.lookup b=none) bn X.N
section
variable{X:Cx}{pins:List (Addr×Obj)}{σ:L2.St}{H:Hp}{s:OD}{fp:List Addr}{scope:Scope}{cl:List (Str×Addr)}{own bn:List Str}
structure Cl (X:Cx) (scope:Scope) (cl:List (Str×Addr)):Prop where
 sub:∀x c,cl.lookup x=some c->X.env.cells.lookup x=some c
 has:∀y∈scope.names,y.2=.free->∃c,cl.lookup y.1=some c
def GY (I:Inv X pins σ H s)(S:jy X own bn scope)(hcl:Cl X scope cl)(hfp:∀b∈fp,gF X pins H b)(hfo:∀b∈fp,∃o,s.heap.get? b=some o) :
 (iG X own bn scope cl s.heap.objs.size fp s H).Ok where
 mod:=I.ok.mod
 kind:=S.kind
 glob:=I.ok.glob
 blt:=I.ok.blt
 above:=OF _
 inj:=λx y c h1 h2=>I.ok.inj x y c (hcl.sub x c h1) (hcl.sub y c h2)
 has:=λx h=>by
  have key:∀k,(relabel scope X.env).names.lookup x=some k->(k=.cell\/k=.free)->∃c,cl.lookup x=some c:=λk hk hh=>by
   obtain⟨k0,h1,h2,h3⟩:=ik hk;have hf:k0=.free:=by
    rcases h3 with e|⟨e,_⟩
    ·rcases hh with z|z
     ·exact absurd (e.symm.trans z) (S.nocell _ h1)
     ·exact e.symm.trans z
    ·exact e
   exact hcl.has _ h1 hf
  rcases h with h|h
  ·exact key _ h (.inl rfl)
  ·exact key _ h (.inr rfl)
 cab:=λx c h=>nomatch h
 hd:=I.ok.hd
 frames:=I.ok.frames
 stk:=.inl rfl
 exf:=λb hb=>{λe=>by
  obtain⟨o,ho⟩:=hfo b hb;exact absurd (OQ ho) (by rw[e];exact PR _),λx c e=>(hfp b hb).2.2.2.2.1 x c (hcl.sub x c e)}
 bs:=λb o e=>I.bs b o e
 bsz:=OI I.ok.bsz I.sz
 noex:=λb o e hb=>by
  rcases(hfp b hb).2.2.2.1 with z|z
  ·exact I.ok.noex b o e z
  ·exact absurd (OY (OQ e) (OI I.ok.bsz z)) (PR _)
 exfs:=λb hb hx=>by
  rcases OL.mp (I.stkSub b hx) with e|e
  ·exact(hfp b hb).2.1 e
  ·exact(hfp b hb).2.2.1 e
 funs:=I.stack
 frf:=λb hb=>I.stkFree b hb
def C6 (I:Inv X pins σ H s)(S:jy X own bn scope)(hcl:Cl X scope cl)(hfp:∀b∈fp,gF X pins H b)(hfo:∀b∈fp,∃o,s.heap.get? b=some o){h':Heap}{t':Nat}{m:Str->Option Oz}
 (hn:h'.Ns s.heap.objs.size m) (hk:∀b o,s.heap.get? b=some o->h'.get? b=some o) :
 Inv (iG X own bn scope cl s.heap.objs.size fp s H) [] (List.replicate own.length none++σ) H {s with heap:=h',toks:=t'} where
 ok:=GY I S hcl hfp hfo
 os:=rfl
 bare:=I.bare
 base:=Un.kept hk
 loc:=by
  refine{m,hn,λi x v e1 e2 hv=>?_};have e1:(own++bn)[i]?=some x:=e1;have hi:own.length<=i:=by
   by_cases q:i<own.length
   ·rw[Pd (by simpa using q),Qr] at e2
    simp[q] at e2
   ·omega
  rw[PN hi] at e1;rw[PN (by simpa using hi)] at e2
  simp only[List.length_replicate] at e2;have hx:X.N[i-own.length]?=some x/\scope.names.lookup x≠some .local:=by
   rcases pO S.dis e1 with⟨y,h1,⟨h2,h3⟩|h2⟩
   ·subst h2;exact⟨h1,h3⟩
   ·exfalso;have no:∀k,(relabel scope X.env).names.lookup x≠some k:=λk hk=>by
     obtain⟨k0,_,h3,_⟩:=ik hk;rw[h2] at h3;cases h3
    rcases hv with z|z|z
    ·exact no _ z
    ·exact no _ z
    ·exact no _ z
  have key:∀k,(relabel scope X.env).names.lookup x=some k->(k=.local\/k=.cell\/k=.free)->∃c,(k=.cell\/k=.free)/\cl.lookup x=some c/\(X.env.kindOf x=some .cell\/X.env.kindOf x=some .free):=λk hk2 hh=>by
   obtain⟨k0,h1,h2,h3⟩:=ik hk2;have nl:k0≠.local:=λe=>hx.2 (by rw[h2,e])
   have hf:k0=.free:=by
    rcases h3 with e|⟨e,_⟩
    ·rcases hh with z|z|z
     ·exact absurd (e.symm.trans z) nl
     ·exact absurd (e.symm.trans z) (S.nocell _ h1)
     ·exact e.symm.trans z
    ·exact e
   obtain⟨c,hc⟩:=hcl.has _ h1 hf;refine{c,?_,hc,S.free _ h1 hf};rcases hh with z|z|z
   ·rcases h3 with e|⟨_,e⟩
    ·rw[hf] at e;rw[e] at z;cases z
    ·rw[e] at z;cases z
   ·exact .inl z
   ·exact .inr z
  have fin:∀k,(relabel scope X.env).names.lookup x=some k->(k=.local\/k=.cell\/k=.free)->∃u,RelV v u/\Look (compEnvC scope cl s.heap.objs.size X.env) h' m x u:=λk hk2 hh=>by
   obtain⟨c,h1,h2,h3⟩:=key k hk2 hh;obtain⟨m0,_,hl⟩:=I.loc;obtain⟨u,r,l⟩:=hl _ x v hx.1 e2 (.inr h3);refine{u,r,.inr {?_,c,h2,?_}}
   ·rcases h1 with z|z
    ·subst z;exact .inl hk2
    ·subst z;exact .inr hk2
   ·rcases l with⟨z,_⟩|⟨_,c',hc',hcell⟩
    ·rcases h3 with q|q
     ·rw[z] at q;cases q
     ·rw[z] at q;cases q
    ·rw[hcl.sub x c h2] at hc';cases hc';obtain⟨o,ho,hd⟩:=hcell;exact{o,hk _ _ ho,hd}
  rcases hv with z|z|z
  ·exact fin _ z (.inl rfl)
  ·exact fin _ z (.inr (.inl rfl))
  ·exact fin _ z (.inr (.inr rfl))
 cell:=λx c e=>by
  obtain⟨v,o,ho,hd⟩:=I.cell x c (hcl.sub x c e);exact{v,o,hk _ _ ho,hd}
 free:=I.hok.fresh (OF _)
 freeC:=λx c e=>I.freeC x c (hcl.sub x c e)
 pin:=λp hp=>nomatch hp
 hok:=I.hok.kept hk
 len:=by
  show(List.replicate own.length none++σ).length=(own++bn).length;have:=Paired.length S.dis;simp[I.len,this]
def comp_back (I:Inv X pins σ H s)(hfp:∀b∈fp,gF X pins H b){pins':List (Addr×Obj)}{σ':L2.St}{H':Hp}{s':OD}{C:Addr}(I':Inv (iG X own bn scope cl C fp s H) pins' σ' H' s'):Inv X pins σ H' s':=
 I.call' (ch:=fp) I'.os I'.base I'.hok I'.bare λb hb=>{(hfp b hb).2.2.2.1,(hfp b hb).2.1,(hfp b hb).2.2.2.2.1,(hfp b hb).2.2.2.2.2}
def AV (I:Inv X pins σ H s){σ':L2.St}{H':Hp}{s':OD}(hf:H' s.heap.objs.size=none)(I':Inv X pins σ' H' s'){h'':Heap}(hs:Heap.SameBut s.heap.objs.size s'.heap h''):Inv X pins σ' H' {s' with heap:=h''}:=
 I'.turned (t':=s'.toks) (λb o hb e=>(hs.2 b hb).trans e) hf (P4 I.lt) (.inr I.sz) (λx c e z=>by
  obtain⟨v,q⟩:=I.cell x c e;exact absurd q.lt (by rw[z];exact PR _)) λp hp z=>absurd (OQ (I.pin p hp).1) (by rw[z];exact PR _)
end
structure gn (a:Addr) (μ:Mu) (H:Hp) (μ':Mu) (H':Hp):Prop extends ExtW μ H μ' H' where
 pr:μ'.priv=μ.priv
 pk:∀b∈μ.priv,b≠a->H' b=H b
def gn.refl {a:Addr}{μ:Mu}{H:Hp}:gn a μ H μ H:={.refl,rfl,λ_ _ _=>rfl}
def gn.trans {a:Addr}{μ μ1 μ2:Mu}{H H1 H2:Hp}(x:gn a μ H μ1 H1)(y:gn a μ1 H1 μ2 H2):gn a μ H μ2 H2:=
 {x.toExtW.trans y.toExtW,y.pr.trans x.pr,λb hb n=>(y.pk b (by rw[x.pr];exact hb) n).trans (x.pk b hb n)}
def Ext.toD {a:Addr}{μ μ':Mu}{H H':Hp}(x:Ext μ H μ' H'):gn a μ H μ' H':={x.toExtW,x.pr,λb hb _=>x.pk b hb}
def slots:dB->List Nat
 |.one i=>[i]
 |.tup l=>l
noncomputable def Clear (W:List Nat)(Z:Env):Prop:=∀i∈W,∀d,Z[i]?≠some (some d)
section
variable{fa:Fa}{K:OA}{μ μ':Mu}{H H':Hp}{σ:L2.St}{Z ρ1:Env}{M:Mem}{a:Addr}
def bt.weak (h:bt fa K μ H σ ρ1)(hl:ρ1.length=Z.length)(w:∀(i:Nat) d,Z[i]?=some (some d)->ρ1[i]?=some (some d)):bt fa K μ H σ Z:=
 {h.len.trans hl,λi d e=>h.at' i d (w i d e)}
def pF:∀{l:List Nat}{ds:List D}{Z ρ1:Env},eP l ds Z=some ρ1->ρ1.length=Z.length/\∀i,i∉l->ρ1[i]?=Z[i]?
 |[],[],Z,ρ1,h=>by cases h;exact{rfl,λ_ _=>rfl}
 |_::_,[],_,_,h=>by cases h
 |[],_::_,_,_,h=>by cases h
 | j :: l, d :: ds, Z, ρ1, h => by
   obtain⟨h1,h2⟩:=pF (l:=l) (ds:=ds) h;refine{by simpa using h1,λi hi=>?_}
   rw[h2 i (λz=>hi (ON _ z)),O3 (λz=>hi (by rw[z];exact OT))]
def sD {t:dB}{d:D}(h:cX t d Z=some ρ1):ρ1.length=Z.length/\∀i,i∉slots t->ρ1[i]?=Z[i]?:=by
 cases t with
 | one j =>
   have h:some (Z.set j (some d))=some ρ1:=h;cases h;exact{`s,λi hi=>O3 (λz=>hi (by rw[z];exact OT))}
 | tup l =>
   cases d with
   |tup ds=>exact pF h
   |_=>cases h
def bt.unbind {t:dB}{d:D}(h:cX t d Z=some ρ1)(c:Clear (slots t) Z)(r:bt fa K μ H σ ρ1):bt fa K μ H σ Z:=by
 obtain⟨h1,h2⟩:=sD h;refine r.weak h1 λi d e=>?_;by_cases hi:i∈slots t
 ·exact absurd e (c i hi d)
 ·rw[h2 i hi];exact e
def RelM.writeP (h:RelM fa K μ H M){ws vs:List V}(e:a∈μ.priv)(hH:H a=some (.lst vs)):RelM fa K μ (upd H a (.lst ws)) M:=by
 have x:ExtW μ H μ (upd H a (.lst ws)):=ExtW.write hH (.inr e);refine{λk ds q=>?_,h.out,h.inj,λb hb=>{?_,(h.pv b hb).2}}
 ·obtain⟨b,us,h1,h2,h3⟩:=h.at' k ds q;have nb:b≠a:=λz=>(h.pv a e).2 k (by rw[h1,z])
  exact{b,us,h1,by rw[aN nb];exact h2,h3.extW x}
 ·by_cases hb':b=a
  ·subst hb';exact⟨ws,bW⟩
  ·obtain⟨us,q⟩:=(h.pv b hb).1;exact{us,by rw[aN hb'];exact q}
def gn.writeP {ws vs:List V}(e:a∈μ.priv)(hH:H a=some (.lst vs)):gn a μ H μ (upd H a (.lst ws)):=
 {ExtW.write hH (.inr e),rfl,λb _ n=>by rw[aN n]}
end
noncomputable def WB (fa:Fa)(K:OA)(a:Addr)(μ:Mu)(H:Hp)(Z:Env)(Q:L2.St->Hp->Prop)(acc:List D)(M':Mem):Prop:=
 ∀σ' H' μ' vs',gn a μ H μ' H'->bt fa K μ' H' σ' Z->RelM fa K μ' H' M'->H' a=some (.lst vs')->aR fa K μ' H' acc vs'->Q σ' H'
def WB.ext {fa:Fa}{K:OA}{a:Addr}{μ μ1:Mu}{H H1:Hp}{Z:Env}{Q:L2.St->Hp->Prop}{acc:List D}{M':Mem}(h:WB fa K a μ H Z Q acc M')(x:gn a μ H μ1 H1):WB fa K a μ1 H1 Z Q acc M':=
 λσ' H' μ' vs' y e m h1 h2=>h σ' H' μ' vs' (x.trans y) e m h1 h2
noncomputable def DB (fa:Fa)(X:Cx)(a:Addr)(W:List Nat)(body:Sem Unit)(g:Env->List D->Mem->Res (List D)):Prop:=
 ∀(pins:List (Addr×Obj)) (s:OD) (σ:L2.St) (H:Hp) (Q:L2.St->Hp->Prop) (μ:Mu) (Z:Env) (M:Mem) (acc:List D) (vs:List V),Inv X pins σ H s->bt fa X.K μ H σ Z->RelM fa X.K μ H M->Clear W Z->a∈μ.priv->H a=some (.lst vs)->aR fa X.K μ H acc vs->
  ai (g Z acc M) (WB fa X.K a μ H Z Q)->wpAny (model X.prog X.w) X.A body (λ_ s'=>∃σ' H',Inv X pins σ' H' s'/\Q σ' H') X.xe s
noncomputable def bR (ge:Env->Mem->Res D):Env->List D->Mem->Res (List D):=λZ acc M=>(ge Z M).bind λx M=>if acc.length<sz then .ok (acc++[x]) M else .bad
noncomputable def lG (gc:Env->Mem->Res Bool)(g:Env->List D->Mem->Res (List D)):Env->List D->Mem->Res (List D):=λZ acc M=>(gc Z M).bind λk M=>if k then g Z acc M else .ok acc M
noncomputable def dY (t:dB)(g:Env->List D->Mem->Res (List D))(Z:Env):List D->D->Mem->Res (List D):=λacc d M=>(cK M (cX t d Z)).bind λρ1 M=>g ρ1 acc M
noncomputable def u4 (t:dB)(gw:Env->Mem->Res Walk)(g:Env->List D->Mem->Res (List D)):Env->List D->Mem->Res (List D):=λZ acc M=>(gw Z M).bind λw M=>dX (dY t g Z) w acc M
section
variable{fa:Fa}{X:Cx}{a:Addr}
def vd {elt:Expr}{ge:Env->Mem->Res D}(he:DE fa X elt ge):DB fa X a [] (eval elt X.env >>= λx=>call (.builtin "list.append") [.ref a,x] >>= λ_=>pure ()) (bR ge):=by
 intro pins s σ H Q μ Z M acc vs I hE hM hc ha hH hr h;obtain⟨x,M1,e,q⟩:=aV h;split at q
 ·next hz=>
  have q:WB fa X.K a μ H Z Q (acc++[x]) M1:=q;refine tqa (a9 (he pins s σ H (λv H1=>∃μ1,Ext μ H μ1 H1/\RelM fa X.K μ1 H1 M1/\Rep fa X.K μ1 H1 x v) I {μ,Z,M,hE,hM,?_}) λu s1 ⟨v,H1,I1,rv,μ1,x1,m1,r1⟩=>?_)
  ·rw[e];exact λv H1 μ1 x1 m1 r1=>⟨μ1,x1,m1,r1⟩
  have hH1:H1 a=some (.lst vs):=by rw[x1.pk a ha];exact hH
  have ha1:a∈μ1.priv:=by rw[x1.pr];exact ha
  have hl:vs.length<sizeLine:=by rw[hr.length,<- dN];exact hz
  refine tqa (a9 (r9 pins s1 σ H1 (.ref a) [v] (.ref a) [u] (λ_ H2=>H2=upd H1 a (.lst (vs++[v]))) I1 rfl (.cons rv .nil) ⟨a,vs,v,rfl,rfl,hH1,hl,rfl⟩) λ_ s2 ⟨_,H2,I2,_,e2⟩=>tqb {σ,H2,I2,?_});subst e2;have xd:gn a μ1 H1 μ1 (upd H1 a (.lst (vs++[v]))):=gn.writeP ha1 hH1;exact q σ _ μ1 (vs++[v]) (x1.toD.trans xd) ((hE.ext x1).extW xd.toExtW) (m1.writeP ha1 hH1) bW (((hr.ext x1).append (.one r1)).extW xd.toExtW)
 ·exact q.elim
def LL {c:Expr}{gc:Env->Mem->Res Bool}{W:List Nat}{body:Sem Unit}{g:Env->List D->Mem->Res (List D)}(hc:DT fa X c gc)(hb:DB fa X a W body g) :
 DB fa X a W (isTrue c X.env (eval c X.env) >>= λok=>if ok=true then body else pure ()) (lG gc g):=by
 intro pins s σ H Q μ Z M acc vs I hE hM hw ha hH hr h;obtain⟨k,M1,e,q⟩:=aV h;refine tqa (a9 (hc pins s σ H (λb H1=>b=k/\∃μ1,Ext μ H μ1 H1/\RelM fa X.K μ1 H1 M1) I {μ,Z,M,hE,hM,?_}) λb s1 ⟨H1,I1,eb,μ1,x1,m1⟩=>?_)
 ·rw[e];exact λH1 μ1 x1 m1=>⟨rfl,μ1,x1,m1⟩
 subst eb;have hH1:H1 a=some (.lst vs):=by rw[x1.pk a ha];exact hH
 have ha1:a∈μ1.priv:=by rw[x1.pr];exact ha
 cases b with
 | true =>
   rw[if_pos rfl];exact hb pins s1 σ H1 Q μ1 Z M1 acc vs I1 (hE.ext x1) m1 hw ha1 hH1 (hr.ext x1) (aH q λ_ _ w=>w.ext x1.toD)
 | false =>
   rw[if_neg Pc];have q:WB fa X.K a μ H Z Q acc M1:=q;exact tqb {σ,H1,I1,q σ H1 μ1 vs x1.toD (hE.ext x1) m1 hH1 (hr.ext x1)}
def wW {elt:Expr}{gens:List Qf}{scope:Scope}{pos p:Pos}{k:Nat}{tg:Expr}{body:Sem Unit}{t:dB}{W:List Nat}{g:Env->List D->Mem->Res (List D)}{it:Addr}{fp:List Addr}{tn:Nat->Heap->Prop}{J:It}
 (heq:compTurn (.ListComp elt gens scope pos) k (.ref it) (.ref a) X.env=(standAt p >>= λ_=>pyNext (.ref it) >>= λr=>match r with
  |none=>pure (.done .next)
  |some v=>letOwnedTupleGo tg (.ref it) v >>= λ_=>assign tg X.env v >>= λ_=>body >>= λ_=>again (.compLoop (.ListComp elt gens scope pos) k (.ref it) (.ref a) X.env)))
 (hx:X.xe=FF) (hcalm:X.calm=true) (T:Turn X.prog X.w X.K tg J fp it tn) (hg:PG X tg (gT fa X.K t)) (hb:DB fa X a W body g) (hW:∀i∈W,i∉slots t)
 {pins:List (Addr×Obj)}{s:OD}{σ:L2.St}{H:Hp}{Q:L2.St->Hp->Prop}{μ:Mu}{Z:Env}{M:Mem}{acc:List D}{vs:List V}{w:Walk} (I:Inv X pins σ H s) (st:tn 0 s.heap) (hf:∀b∈fp,gF X pins H b) (hE:bt fa X.K μ H σ Z) (hM:RelM fa X.K μ H M)
 (hcl:Clear (slots t++W) Z) (ha:a∈μ.priv) (hH:H a=some (.lst vs)) (hr:aR fa X.K μ H acc vs) (wk:dW fa X.K μ H w J) (q:ai (dX (dY t g Z) w acc M) (WB fa X.K a μ H Z Q)) :
 codeAny (model X.prog X.w) X.A (.compLoop (.ListComp elt gens scope pos) k (.ref it) (.ref a) X.env) (λr s'=>r=.ok .next/\∃σ' H',Inv X pins σ' H' s'/\Q σ' H') s:=by
 have stat:∀{H':Hp},(∀b∈fp,H' b=none)->∀b∈fp,gF X pins H' b:=λhn b hb=>{hn b hb,(hf b hb).2};have clt:Clear (slots t) Z:=λi hi=>hcl i (Qe _ hi);have clW:∀d ρ1,cX t d Z=some ρ1->Clear W ρ1:=λd ρ1 e i hi d' z=>by
  rw[(sD e).2 i (hW i hi)] at z;exact hcl i (Pq _ hi) d' z
 let P:Nat->Nat->OD->Prop:=λm i s'=>∃σ' H' μ' M' acc' vs',Inv X pins σ' H' s'/\tn i s'.heap/\(∀b∈fp,H' b=none)/\gn a μ H μ' H'/\bt fa X.K μ' H' σ' Z/\RelM fa X.K μ' H' M'/\H' a=some (.lst vs')/\aR fa X.K μ' H' acc' vs'/\
  ai (fG (dY t g Z) w m i acc' M') (WB fa X.K a μ H Z Q)
 have P0:∃m,P m 0 s:={_,σ,H,μ,M,acc,vs,I,st,λb hb=>(hf b hb).1,.refl,hE,hM,hH,hr,q};obtain⟨m0,P0⟩:=P0;have hturn:∀(n:Nat) (i:Nat) (s3:OD),P n i s3->wpAny (model X.prog X.w) X.A (pyNext (.ref it)) (λr s₁=>match r with
  |none=>(∃σ' H',Inv X pins σ' H' s₁/\Q σ' H')
  |some v=>wpAny (model X.prog X.w) X.A (letOwnedTupleGo tg (.ref it) v) (λ_ s₂=>wpAny (model X.prog X.w) X.A (assign tg X.env v) (λ_ s₃=>wpAny (model X.prog X.w) X.A body (λ_ s₄=>∃m,m<n/\P m (i+1) s₄) FF s₃) FF s₂) FF s₁) FF s3:=by
  rintro n i s3 ⟨σ3,H3,μ3,M3,acc3,vs3,I3,st3,fr3,x3,hE3,hM3,hH3,hr3,q3⟩;have ha3:a∈μ3.priv:=by rw[x3.pr];exact ha
  have one:∀(d:D) (rest:List D->Mem->Res (List D)) (next:List D->Mem->Prop),J.go i H3->(∀x H',J.yld i H3 x H'->Ext μ3 H3 μ3 H'/\RelM fa X.K μ3 H' M3/\Rep fa X.K μ3 H' d x)->ai ((dY t g Z acc3 d M3).bind rest) (WB fa X.K a μ H Z Q)->
   (∀σ' H' μ' M' acc' vs' s',Inv X pins σ' H' s'->tn (i+1) s'.heap->(∀b∈fp,H' b=none)->gn a μ H μ' H'->bt fa X.K μ' H' σ' Z->RelM fa X.K μ' H' M'->H' a=some (.lst vs')->aR fa X.K μ' H' acc' vs'->ai (rest acc' M') (WB fa X.K a μ H Z Q)->∃m,m<n/\P m (i+1) s')->
   wpAny (model X.prog X.w) X.A (pyNext (.ref it)) (λr s₁=>match r with
    |none=>(∃σ' H',Inv X pins σ' H' s₁/\Q σ' H')
    |some v=>wpAny (model X.prog X.w) X.A (letOwnedTupleGo tg (.ref it) v) (λ_ s₂=>wpAny (model X.prog X.w) X.A (assign tg X.env v) (λ_ s₃=>wpAny (model X.prog X.w) X.A body (λ_ s₄=>∃m,m<n/\P m (i+1) s₄) FF s₃) FF s₂) FF s₁) FF s3:=by
   intro d rest next go yl qd fin
   refine a9 (T.item X rfl rfl rfl hcalm i pins s3 σ3 H3 FF I3 (stat fr3) st3 go) λr s4 ⟨u,hr4,h4⟩=>?_;subst hr4;refine a9 h4 λ_ s5 ⟨x,H5,I5,r5,y5,st5,fr5⟩=>?_;obtain⟨x5,hM5,rd⟩:=yl x H5 y5;have I5':=I5.pinned (stat fr5) (T.obj _ _ st5);obtain⟨acc6,M6,e6,q6⟩:=aV qd;obtain⟨ρ1,M7,e7,e8⟩:=fN e6;cases eb:cX t d Z with
   |none=>rw[eb] at e7;cases e7
   | some ρ2 =>
     rw[eb] at e7;cases e7;have hg':=hg _ s5 σ3 H5 x u (λσ' H'=>H'=H5/\bt fa X.K μ3 H5 σ' ρ1) I5' r5 {μ3,Z,_,d,ρ1,hE3.ext x5,hM5,rd,eb,λσ1 h1=>⟨rfl,h1⟩};rw[hx] at hg';refine a9 hg' λ_ s6 ⟨σ6,H6,I6,eH,hE6⟩=>?_;subst eH;have hH6:H6 a=some (.lst vs3):=by rw[x5.pk a ha3];exact hH3
     have hb':=hb _ s6 σ6 H6 (λσ' H'=>∃μ' vs',gn a μ3 H6 μ' H'/\bt fa X.K μ' H' σ' ρ1/\RelM fa X.K μ' H' M6/\H' a=some (.lst vs')/\aR fa X.K μ' H' acc6 vs') μ3 ρ1 _ acc3 vs3 I6 hE6 hM5 (clW d ρ1 eb) ha3 hH6 (hr3.ext x5) (by
      rw[e8];exact λσ' H' μ' vs' z1 z2 z3 z4 z5=>⟨μ',vs',z1,z2,z3,z4,z5⟩)
     rw[hx] at hb';refine a9 hb' λ_ s7 ⟨σ7,H7,I7,μ7,vs7,x7,hE7,hM7,hH7,hr7⟩=>?_;refine fin σ7 H7 μ7 M6 acc6 vs7 s7 I7.unpinned (T.keep _ _ _ st5 λb hb o e=>(I7.pin (b,o) (Pq _ (Pq _ (jJ hb e)))).1) (λb hb=>?_) ((x3.trans x5.toD).trans x7) (hE7.unbind eb clt) hM7 hH7 hr7 q6;obtain⟨o,e,dd⟩:=T.obj _ _ st5 b hb;exact(I7.pin (b,o) (Pq _ (Pq _ (jJ hb e)))).2.1
  have stop:J.stop i H3->ai (.ok acc3 M3) (WB fa X.K a μ H Z Q)->wpAny (model X.prog X.w) X.A (pyNext (.ref it)) (λr s₁=>match r with
   |none=>(∃σ' H',Inv X pins σ' H' s₁/\Q σ' H')
   |some v=>wpAny (model X.prog X.w) X.A (letOwnedTupleGo tg (.ref it) v) (λ_ s₂=>wpAny (model X.prog X.w) X.A (assign tg X.env v) (λ_ s₃=>wpAny (model X.prog X.w) X.A body (λ_ s₄=>∃m,m<n/\P m (i+1) s₄) FF s₃) FF s₂) FF s₁) FF s3:=λhs q=>by
   refine a9 (T.done X rfl rfl rfl hcalm i pins s3 σ3 H3 FF I3 (stat fr3) st3 hs) λr s4 ⟨hr4,I4⟩=>?_;subst hr4;have q:WB fa X.K a μ H Z Q acc3 M3:=q;exact{σ3,H3,I4,q σ3 H3 μ3 vs3 x3 hE3 hM3 hH3 hr3}
  cases n with
  |zero=>exact q3.elim
  | succ n =>
    unfold fG at q3;cases e2:w M3 with
    |none=>rw[e2] at q3;exact q3.elim
    | some ds =>
      rw[e2] at q3;dsimp only at q3;obtain⟨go,stp⟩:=wk μ3 H3 M3 ds x3.toExtW hM3 e2;cases ed:ds[i]? with
      | none =>
        rw[ed] at q3;exact stop (stp i (List.getElem?_eq_none_iff.mp ed)) q3
      | some d =>
        rw[ed] at q3;obtain⟨g1,g2⟩:=go i d ed;refine one d (fG (dY t g Z) w n (i+1)) (λ_ _=>True) g1 g2 q3 ?_;intro σ' H' μ' M' acc' vs' s' z1 z2 z3 z4 z5 z6 z7 z8 z9;exact{n,`a,σ',H',μ',M',acc',vs',z1,z2,z3,z4,z5,z6,z7,z8,z9}
 refine AU heq (λn s'=>∃i,P n i s') (λn s3 ⟨i,h3⟩=>?_) m0 {0,P0};refine a9 (hturn n i s3 h3) λr s1 h=>?_;cases r with
 |none=>exact⟨rfl,h⟩
 |some v=>exact a9 h λ_ s2 h=>a9 h λ_ s3 h=>a9 h λ_ s4 ⟨m,hm,h⟩=>{m,hm,i+1,h}
end
section
variable{prog:OX}{w:O6}{A:Pu}{s:OD}{R:Result->OD->Prop}
def sS {elt t1 i1 t2 i2:Expr}{f1 f2:List Expr}{scope:Scope}{pos:Pos}{it acc:Oz}{env:Po}
 (h0:codeAny (model prog w) A (.compLoop (.ListComp elt [{t1,i1,f1,0},{t2,i2,f2,0}] scope pos) 1 it acc env) R s)
 (h:wpAny (model prog w) A (pyIter it) (λit' s'=>codeAny (model prog w) A (.compLoop (.ListComp elt [{t1,i1,f1,0},{t2,i2,f2,0}] scope pos) 1 it' acc env) R s')
  (notedBy (model prog w) A env λx s'=>R (.error x) s') s) :
 codeAny (model prog w) A (.compStart (.ListComp elt [{t1,i1,f1,0},{t2,i2,f2,0}] scope pos) 1 it acc env) R s:=by
 refine codeAny_of_tree ?_;show wpAny _ _ ((compStart (.ListComp elt [{t1,i1,f1,0},{t2,i2,f2,0}] scope pos) 1 it acc env).onRaise (λx=>do noteFrame x env;standAt theWindowsPlace)) _ _ s
 refine wpAny_notedAt ?_;unfold compStart;show wpAny _ _ (ask >>= _) _ _ s;refine tqa (wpAny_askSetting (wpAny_ite ?_));split
 ·first
   |exact tqa (tqb (tqb (And.intro rfl h0)))
   |exact tqb (And.intro rfl h0)
 ·first
   |exact tqa (wpAny_rule (tqa (wpAny_standAt (tqa (wpAny_mono h (λit' s' h'=>tqb (And.intro rfl h')) λ_ _ x=>x)))))
   |(refine tqa (wpAny_rule ?_);show wpAny _ _ (standAt i2.pos >>= _) _ _ s;exact tqa (wpAny_standAt (tqa (wpAny_mono h (λit' s' h'=>tqb (And.intro rfl h')) λ_ _ x=>x))))
end
section
variable{fa:Fa}{X:Cx}{a:Addr}
def J9 {elt t1 i1 t2 i2:Expr}{scope:Scope}{pos:Pos}{t:dB}{gw:Env->Mem->Res Walk}{ge:Env->Mem->Res D}(hx:X.xe=FF)(hcalm:X.calm=true)(hi:DI fa X t2 i2 gw)(hg:PG X t2 (gT fa X.K t))(he:DE fa X elt ge)
 (hs:∀x,foldedSetIterable i2 X.env x=pure x) :
 DB fa X a (slots t) (eval i2 X.env >>= λx=>standAt i2.pos >>= λ_=>foldedSetIterable i2 X.env x >>= λx=>holding [x] (pyIter x) >>= λj=>runOwn (.compStart (.ListComp elt [{t1,i1,[],0},{t2,i2,[],0}] scope pos) 1 j (.ref a) X.env) X.env >>= λ_=>pure ()) (u4 t gw (bR ge)):=by
 intro pins s σ H Q μ Z M acc vs I hE hM hc ha hH hr h;obtain⟨w,M1,e,q⟩:=aV h;refine tqa (a9 (hi pins s σ H (λJ H1=>∃μ1,Ext μ H μ1 H1/\RelM fa X.K μ1 H1 M1/\dW fa X.K μ1 H1 w J) I {μ,Z,M,hE,hM,?_}) λv s1 h1=>?_)
 ·rw[e];exact λJ H1 μ1 x1 m1 wk=>⟨μ1,x1,m1,wk⟩
 refine tqa (wpAny_standAt (tqa (wpAny_of_eq (hs v) (tqa (tqo (a9 h1 λitv s2 h2=>?_))))));obtain⟨it,fp,tn,J,H2,ei,I2,T,st2,f2,μ2,x2,m2,wk⟩:=h2;subst ei;have hH2:H2 a=some (.lst vs):=by rw[x2.pk a ha];exact hH
 have ha2:a∈μ2.priv:=by rw[x2.pr];exact ha
 have go:=wW (elt:=elt) (gens:=[{t1,i1,[],0},{t2,i2,[],0}]) (scope:=scope) (pos:=pos) (W:=[]) (Q:=Q) (Bw elt t1 i1 t2 i2 scope pos (.ref it) (.ref a) X.env) hx hcalm T hg (vd he) (λi hi=>nomatch hi) I2 st2 f2 (hE.ext x2) m2 (by simpa using hc) ha2 hH2 (hr.ext x2) wk (aH q λ_ _ z=>z.ext x2.toD)
 refine tqa (wpAny_runOwn (h:=none) ?_);have go':codeAny (model X.prog X.w) (X.A.mark none) (.compLoop (.ListComp elt [{t1,i1,[],0},{t2,i2,[],0}] scope pos) 1 (.ref it) (.ref a) X.env) (λr s'=>match r with|.ok f=>wpAny (model X.prog X.w) X.A (pure ():Sem Unit) (λ_ s'=>∃σ' H',Inv X pins σ' H' s'/\Q σ' H') X.xe s'|.error e=>cameBackBy (model X.prog X.w) X.A X.env X.xe e s') s2:=
  codeAny_mono go λr s' ⟨er,z⟩=>by subst er;exact tqb z
 exact sS go' (T.self _ 0 _ _ _ st2 go')
end
section
variable{fa:Fa}{K:OA}{μ1 μ':Mu}{H1 H':Hp}{M1 M':Mem}{a:Addr}
def Jq (μ:Mu)(a:Addr):Mu:={μ.pub,a::μ.priv}
def mU (h:RelM fa K μ1 H1 M1)(ha:H1 a=none)(o:HO):ExtW μ1 H1 (Jq μ1 a) (upd H1 a o):=by
 have x:ExtW μ1 H1 μ1 (upd H1 a o):=(Ext.alloc h ha).toExtW;refine{x.mu,x.tups,λb vs e n=>{(x.lsts b vs e n).1,λz=>?_},x.frzs,x.exts};rcases z with z|z
 ·exact n (.inl z)
 ·rcases OL.mp z with z|z
  ·subst z;rw[ha] at e;cases e
  ·exact n (.inr z)
def zK (h:RelM fa K μ1 H1 M1)(ha:H1 a=none)(vs:List V):RelM fa K (Jq μ1 a) (upd H1 a (.lst vs)) M1:=by
 have x:=mU h ha (.lst vs);refine{λk ds e=>?_,h.out,h.inj,λb hb=>?_}
 ·obtain⟨b,ws,h1,h2,h3⟩:=h.at' k ds e;exact{b,ws,h1,by rw[aN (bc h2 ha)];exact h2,h3.extW x}
 ·rcases OL.mp hb with z|z
  ·subst z;exact{⟨vs,bW⟩,λk e=>by
    obtain⟨_,_,_,q,_⟩:=h.mu_lt e;rw[ha] at q;cases q}
  ·obtain⟨⟨ws,q⟩,n⟩:=h.pv b z;exact{{ws,by rw[aN (bc q ha)];exact q},n}
def FO {m:Bool}{acc:List D}{vs:List V}{Q:VK}(h:RelM fa K μ1 H1 M1)(ha:H1 a=none)(x:gn a (Jq μ1 a) (upd H1 a (.lst [])) μ' H')(hM:RelM fa K μ' H' M')(hH:H' a=some (.lst vs))(hr:aR fa K μ' H' acc vs)
 (q:ai (bE m acc M') (bg fa K μ1 H1 Q)):Q (.ref a) H':=by
 have na:a∉μ1.priv:=λz=>h.pne ha z rfl;have hp:μ'.priv=a::μ1.priv:=x.pr;have nk:∀k,μ'.pub k≠some a:=(hM.pv a (by rw[hp];exact OT)).2
 have x0:=mU h ha (.lst []);have xe:Ext μ1 H1 ⟨μ'.pub,μ1.priv⟩ H':=by
  refine{{λk b e=>x.mu k b e,λb ws e=>x.tups b ws (x0.tups b ws e),λb ws e n=>?_,λb ob u e=>x.frzs b ob u (x0.frzs b ob u e),λb o i e=>x.exts b o i (x0.exts b o i e)},rfl,λb hb=>?_}
  ·obtain⟨z1,z2⟩:=x0.lsts b ws e n;obtain⟨z3,z4⟩:=x.lsts b ws z1 z2;refine{z3,λz=>z4 ?_};rcases z with z|z
   ·exact .inl z
   ·exact .inr (by rw[hp];exact ON _ z)
  ·have nb:b≠a:=λe=>na (by rw[<- e];exact hb)
   rw[x.pk b (ON _ hb) nb,aN nb]
 have xw:ExtW μ' H' ⟨μ'.pub,μ1.priv⟩ H':={λ_ _ e=>e,λ_ _ e=>e,λb ws e n=>{e,λz=>n (z.elim .inl λz=>.inr (by rw[hp];exact ON _ z))},λ_ _ _ e=>e,λ_ _ _ e=>e}
 have me:RelM fa K ⟨μ'.pub,μ1.priv⟩ H' M':={λk ds e=>let⟨b,ws,h1,h2,h3⟩:=hM.at' k ds e;{b,ws,h1,h2,h3.extW xw},hM.out,hM.inj,λb hb=>hM.pv b (by rw[hp];exact ON _ hb)}
 have re:aR fa K ⟨μ'.pub,μ1.priv⟩ H' acc vs:=hr.extW xw;have nMt:¬ (⟨μ'.pub,μ1.priv⟩:Mu).Mt a:=λz=>z.elim (λ⟨k,e⟩=>nk k e) na;unfold bE at q;split at q
 ·cases m with
  | false =>
    have q:bg fa K μ1 H1 Q (.lst acc) M':=q;exact q (.ref a) H' _ xe me {a,vs,rfl,⟨hH,nMt⟩,re}
  | true =>
    have q:bg fa K μ1 H1 Q (.cell M'.length) (M'++[acc]):=q;have pc:∀k b,(gu ⟨μ'.pub,μ1.priv⟩ M'.length a).pub k=some b->(k=M'.length/\b=a)\/(k≠M'.length/\μ'.pub k=some b):=λk b e=>by
     have e:(if k=M'.length then some a else μ'.pub k)=some b:=e;split at e
     ·next z=>cases e;exact .inl ⟨z,rfl⟩
     ·next z=>exact .inr ⟨z,e⟩
    have mc:∀k b,μ'.pub k=some b->(gu ⟨μ'.pub,μ1.priv⟩ M'.length a).pub k=some b:=λk b e=>by
     show(if k=M'.length then some a else μ'.pub k)=some b;split
     ·next z=>rw[z,hM.out _ (OF _)] at e;cases e
     ·exact e
    have ac:(gu ⟨μ'.pub,μ1.priv⟩ M'.length a).pub M'.length=some a:=by
     show(if M'.length=M'.length then some a else _)=some a;rw[if_pos rfl]
    have nc:∀b,¬ μ'.Mt b->¬ (gu ⟨μ'.pub,μ1.priv⟩ M'.length a).Mt b:=λb n z=>by
     rcases z with⟨k,z⟩|z
     ·rcases pc k b z with⟨_,e⟩|⟨_,e⟩
      ·exact n (.inr (by rw[hp,e];exact OT))
      ·exact n (.inl ⟨k,e⟩)
     ·exact n (.inr (by rw[hp];exact ON _ z))
    have xc:ExtW μ' H' (gu ⟨μ'.pub,μ1.priv⟩ M'.length a) H':={mc,λ_ _ e=>e,λb ws e n=>{e,nc b n},λ_ _ _ e=>e,λ_ _ _ e=>e};have xe2:Ext μ1 H1 (gu ⟨μ'.pub,μ1.priv⟩ M'.length a) H':=by
     refine{{λk b e=>mc k b (x.mu k b e),xe.tups,λb ws e n=>?_,xe.frzs,xe.exts},rfl,xe.pk};obtain⟨z1,z2⟩:=x0.lsts b ws e n;obtain⟨z3,z4⟩:=x.lsts b ws z1 z2;exact{z3,nc b z4}
    have mce:RelM fa K (gu ⟨μ'.pub,μ1.priv⟩ M'.length a) H' (M'++[acc]):=by
     refine{λk ds e=>?_,λk hk=>?_,λj k b e1 e2=>?_,λb hb=>?_}
     ·by_cases hk:k<M'.length
      ·rw[Pd hk] at e;obtain⟨b,ws,h1,h2,h3⟩:=hM.at' k ds e;exact{b,ws,mc k b h1,h2,h3.extW xc}
      ·have hk':k=M'.length:=by
        have:=(Oy.mp e).1;simp at this;omega
       subst hk';rw[PN (OF _)] at e;simp at e;subst e;exact{a,vs,ac,hH,hr.extW xc}
     ·simp at hk;show(if k=M'.length then some a else μ'.pub k)=none;rw[if_neg `a]
      exact hM.out k `a
     ·rcases pc j b e1 with⟨j1,j2⟩|⟨j1,j2⟩<;>rcases pc k b e2 with⟨k1,k2⟩|⟨k1,k2⟩
      ·omega
      ·exact absurd (j2 ▸ k2) (nk k)
      ·exact absurd (k2 ▸ j2) (nk j)
      ·exact hM.inj j k b j2 k2
     ·have hb:b∈μ1.priv:=hb;obtain⟨z1,z2⟩:=hM.pv b (by rw[hp];exact ON _ hb)
      refine{z1,λk e=>?_};rcases pc k b e with⟨_,e⟩|⟨_,e⟩
      ·exact na (e ▸ hb)
      ·exact z2 k e
    exact q (.ref a) H' _ xe2 mce ⟨a,rfl,ac⟩
 ·exact q.elim
end
section
variable{fa:Fa}{X:Cx}
noncomputable def bU (m:Bool)(n:Nat)(t:dB)(gw:Env->Mem->Res Walk)(g:Env->List D->Mem->Res (List D)):Env->Mem->Res D:=λZ M=>
 (gw Z M).bind λw M=>(dX (dY t g (List.replicate n none++Z)) w [] M).bind (bE m)
noncomputable def ql (X:Cx)(elt tg iter:Expr)(ifs:List Expr)(rest:List Qf)(scope:Scope)(pos:Pos)(body:Addr->Po->Sem Unit):Prop:=
 ∀(it a:Addr) (env:Po),compTurn (.ListComp elt ({tg,iter,ifs,0}::rest) scope pos) 0 (.ref it) (.ref a) env=(standAt iter.pos >>= λ_=>pyNext (.ref it) >>= λr=>match r with
  |none=>pure (.done .next)
  |some v=>letOwnedTupleGo tg (.ref it) v >>= λ_=>assign tg env v >>= λ_=>body a env >>= λ_=>again (.compLoop (.ListComp elt ({tg,iter,ifs,0}::rest) scope pos) 0 (.ref it) (.ref a) env))
structure Block (fa:Fa) (X:Cx) (own bn:List Str) (scope:Scope) (tg:Expr) (t:dB) (W:List Nat) (body:Addr->Po->Sem Unit) (g:Env->List D->Mem->Res (List D)):Prop where
 pg:∀cl C fp s H,PG (iG X own bn scope cl C fp s H) tg (gT fa X.K t)
 db:∀cl C fp s H a,DB fa (iG X own bn scope cl C fp s H) a W (body a (compEnvC scope cl C X.env)) g
def AX {n:Nat}{W:List Nat}{Z:Env}(h:∀i∈W,i<n):Clear W (List.replicate n none++Z):=λi hi d e=>by
 rw[Pd (by simpa using h i hi),Qr] at e
 simp[h i hi] at e
def B3 {K:OA}{μ:Mu}{H:Hp}{σ:L2.St}{Z:Env}(n:Nat)(h:bt fa K μ H σ Z):bt fa K μ H (List.replicate n none++σ) (List.replicate n none++Z):=by
 refine{by simp[h.len],λi d e=>?_}
 by_cases hi:i<n
 ·rw[Pd (by simpa using hi),Qr] at e
  simp[hi] at e
 ·rw[PN `o] at e ⊢
  simp only[List.length_replicate] at e ⊢;exact h.at' _ d e
def qj {elt tg iter:Expr}{ifs:List Expr}{rest:List Qf}{scope:Scope}{pos p0:Pos}{own bn:List Str}{t:dB}{W:List Nat}{body:Addr->Po->Sem Unit}{gw:Env->Mem->Res Walk}{g:Env->List D->Mem->Res (List D)}{m:Bool}
 (S:jy X own bn scope) (hcalm:X.calm=true) (hi:DI fa X tg iter gw) (B:Block fa X own bn scope tg t W body g) (hT:ql X elt tg iter ifs rest scope pos body) (hW:∀i∈W,i∉slots t) (hn:∀i∈slots t++W,i<own.length)
 (hs:∀x,foldedSetIterable iter X.env x=pure x) {use:Option (Oz->Sem Unit)}{QQ:Oz->OD->Prop}
 {pins:List (Addr×Obj)}{s:OD}{σ:L2.St}{H:Hp}{Q:VK}{μ:Mu}{Z:Env}{M:Mem} (I:Inv X pins σ H s) (hE:bt fa X.K μ H σ Z) (hM:RelM fa X.K μ H M) (h:ai (bU m own.length t gw g Z M) (bg fa X.K μ H Q))
 (post:∀(a C:Addr) (s':OD) (H':Hp),Inv X pins σ H' s'->Q (.ref a) H'->(∃m,s'.heap.Ns C m)->(∀σ2 H2 s2,Inv X pins σ2 H2 s2->(H' C=none->H2 C=none)->H2 C=none/\∀h'',Heap.SameBut C s2.heap h''->Inv X pins σ2 H2 {s2 with heap:=h''})->H' C=none->(C≠X.env.locals/\∀x c,X.env.cells.lookup x=some c->c≠C)->compPost (model X.prog X.w) X.A X.xe use QQ (.ref a) C (.ok .next) s') :
 wpAny (model X.prog X.w) X.A (comprehension (.ListComp elt ({tg,iter,ifs,0}::rest) scope pos) scope X.env p0 (newList []) false (eval iter X.env) use) QQ X.xe s:=by
 obtain⟨w,M1,ew,q⟩:=aV h;obtain⟨acc,M2,ea,q2⟩:=aV q;obtain⟨cl,hcl,hsub,hhas⟩:=yt (scope:=scope) (env:=X.env) λy hy hf=>I.ok.has y.1 (S.free y hy hf);have CL:Cl X scope cl:=⟨hsub,hhas⟩;refine wpAny_comprehension_free (use:=use) rfl hs hcl S.kind S.loc ?_;refine a9 (hi pins s σ H (λJ H1=>∃μ1,Ext μ H μ1 H1/\RelM fa X.K μ1 H1 M1/\dW fa X.K μ1 H1 w J) I {μ,Z,M,hE,hM,?_}) λv s1 h1=>a9 h1 λitv s2 h2=>?_
 ·rw[ew];exact λJ H1 μ1 x1 m1 wk=>⟨μ1,x1,m1,wk⟩
 obtain⟨it,fp,tn,J,H2,ei,I2,T,st2,f2,μ2,x2,m2,wk⟩:=h2;subst ei;refine wpAny_newObj_type ?_;have ha:H2 s2.heap.objs.size=none:=I2.hok.fresh (OF _);have I3:Inv X pins σ (upd H2 s2.heap.objs.size (.lst [])) {s2 with heap:=s2.heap.push {cls:=.type "list",dict:=none,data:=.seq ([]:List Oz).toArray}}:=
  I2.laid (t':=s2.toks) (λb o e=>OE _ e) (OF _) {Qy _,[],_,.nil,OZ _ rfl}
 generalize hs3:({s2 with heap:=s2.heap.push {cls:=.type "list",dict:=none,data:=.seq ([]:List Oz).toArray}}:OD)=s3 at I3 ⊢
 have k3:∀b o,s2.heap.get? b=some o->s3.heap.get? b=some o:=λb o e=>by rw[<- hs3];exact OE _ e
 have fo2:=T.obj _ _ st2;have f3:∀b∈fp,gF X pins (upd H2 s2.heap.objs.size (.lst [])) b:=λb hb=>by
  obtain⟨o,e,_⟩:=fo2 b hb;exact{by rw[aN (PK (OQ e))];exact(f2 b hb).1,(f2 b hb).2}
 have fo3:∀b∈fp,∃o,s3.heap.get? b=some o:=λb hb=>let{o,e,_}:=fo2 b hb;{o,k3 b o e}
 refine wpAny_newFunctionEnv S.nocell (by intro y hy;simp at hy) (λh₁ hns₁ hsb₁=>?_) S.kind
 have k4:∀b o,s3.heap.get? b=some o->h₁.get? b=some o:=λb o e=>hsb₁.extBut b o (PK (OQ e)) (OE _ e);have I4:=C6 (own:=own) (bn:=bn) (t':=s3.toks+([]:List (Str×Oz)).length) I3 S CL f3 fo3 hns₁ k4;have ok4:=I4.ok;have f4:∀b∈fp,gF (iG X own bn scope cl s3.heap.objs.size fp s3 (upd H2 s2.heap.objs.size (.lst []))) [] (upd H2 s2.heap.objs.size (.lst [])) b:=λb hb=>
  {(f3 b hb).1,(ok4.exf b hb).1,ok4.exfs b hb,.inl hb,(ok4.exf b hb).2,λp hp=>nomatch hp}
 have st4:tn 0 h₁:=T.keep _ _ _ st2 λb hb o e=>k4 b o (k3 b o e);have x3:=mU m2 ha (.lst []);have go:=wW (X:=iG X own bn scope cl s3.heap.objs.size fp s3 (upd H2 s2.heap.objs.size (.lst []))) (fa:=fa) (a:=s2.heap.objs.size) (W:=W) (t:=t) (g:=g) (acc:=[]) (vs:=[]) (Q:=λ_ H'=>Q (.ref s2.heap.objs.size) H') (hT it s2.heap.objs.size _) rfl hcalm T (B.pg _ _ _ _ _) (B.db _ _ _ _ _ _) hW I4 st4 f4
  (B3 own.length ((hE.ext x2).extW x3)) (zK m2 ha []) (AX hn) OT bW rfl (yP wk x3) (by
   rw[ea];intro σ' H' μ' vs' z1 z2 z3 z4 z5;exact FO (m:=m) m2 ha z1 z3 z4 z5 (kD q2 x2))
 have go':codeAny (model X.prog X.w) X.A (.compLoop (.ListComp elt ({tg,iter,ifs,0}::rest) scope pos) 0 (.ref it) (.ref s2.heap.objs.size) (compEnvC scope cl s3.heap.objs.size X.env)) (compPost (model X.prog X.w) X.A X.xe use QQ (.ref s2.heap.objs.size) s3.heap.objs.size) {s3 with heap:=h₁,toks:=s3.toks+([]:List (Str×Oz)).length}:=
  codeAny_mono go λr s' ⟨er,σ',H',I',z⟩=>by
   subst er;refine post _ _ s' H' (comp_back I3 f3 I') z (let{m,hn,_}:=I'.loc;⟨m,hn⟩) (λσ2 H2 s2' I2' hf=>{hf I'.free,λh'' hs''=>AV I3 (hf I'.free) I2' hs''}) I'.free {P4 I3.lt,λx c e z=>by
    obtain⟨v,q⟩:=I3.cell x c e;exact absurd q.lt (by rw[z];exact PR _)}
 exact codeAny_compStart_list go' (T.self _ 0 _ _ _ st4 go')
def Kc (m:Bool){elt tg iter:Expr}{ifs:List Expr}{rest:List Qf}{scope:Scope}{pos:Pos}{own bn:List Str}{t:dB}{W:List Nat}{body:Addr->Po->Sem Unit}{gw:Env->Mem->Res Walk}{g:Env->List D->Mem->Res (List D)}
 (S:jy X own bn scope) (hcalm:X.calm=true) (hi:DI fa X tg iter gw) (B:Block fa X own bn scope tg t W body g) (hT:ql X elt tg iter ifs rest scope pos body) (hW:∀i∈W,i∉slots t) (hn:∀i∈slots t++W,i<own.length)
 (hs:∀x,foldedSetIterable iter X.env x=pure x):DE fa X (.ListComp elt ({tg,iter,ifs,0}::rest) scope pos) (bU m own.length t gw g):=by
 intro pins s σ H Q I ⟨μ,Z,M,hE,hM,h⟩;rw[eval_ListComp];refine qj (use:=none) S hcalm hi B hT hW hn hs I hE hM h ?_;intro a C s' H' I' q ⟨m,hn⟩ gone hf _;exact{m,hn,λh' hs'=>{.ref a,H',(gone σ H' s' I' id).2 h' hs',rfl,q}}
def yo (m:Bool){i:Nat}{y:Str}{py spos:Pos}{elt tg iter:Expr}{ifs:List Expr}{rest:List Qf}{scope:Scope}{pos:Pos}{own bn:List Str}{t:dB}{W:List Nat}{body:Addr->Po->Sem Unit}{gw:Env->Mem->Res Walk}{g:Env->List D->Mem->Res (List D)}
 (S:jy X own bn scope) (hcalm:X.calm=true) (hi:DI fa X tg iter gw) (B:Block fa X own bn scope tg t W body g) (hT:ql X elt tg iter ifs rest scope pos body) (hW:∀i∈W,i∉slots t) (hn:∀i∈slots t++W,i<own.length)
 (hs:∀x,foldedSetIterable iter X.env x=pure x) (hN:X.N.Nodup) (hy:X.N[i]?=some y) (hl:X.env.scope.names.lookup y=some .local)
 (hsw:swapsWith (.ListComp elt ({tg,iter,ifs,0}::rest) scope pos) (some (.Name y py)) spos.line X.env=pure true) :
 DS fa X (.Assign [.Name y py] (.ListComp elt ({tg,iter,ifs,0}::rest) scope pos) spos) (λZ M=>(bU m own.length t gw g Z M).bind λx M=>(cK M (cX (.one i) x Z)).bind λρ1 M=>.ok (.next ρ1) M):=by
 intro pins s σ H D' I ⟨μ,Z,M,hE,hM,h⟩;obtain⟨x,M1,ex,q⟩:=aV h;have q:∀σ' H' μ',Ext μ H μ' H'->bt fa X.K μ' H' σ' (Z.set i (some x))->RelM fa X.K μ' H' M1->D'.nx σ' H':=q;rw[exec_Assign_Name_used _ _ _ _ hsw];refine tqa (wpAny_standAt (tqa ?_));show wpAny _ X.A (do let _ <- comprehension (.ListComp elt ({tg,iter,ifs,0}::rest) scope pos) scope X.env _ (newList []) false (eval iter X.env) (some (assign (.Name y py) X.env))) _ _ s
 refine tqa (a9 (qj (use:=some (assign (.Name y py) X.env)) (QQ:=λ_ s'=>SP X pins D' .next s') (Q:=λv H'=>D'.nx (σ.set i (some v)) H') S hcalm hi B hT hW hn hs I hE hM (by
  rw[ex];exact λv H' μ' x1 m1 r1=>q _ H' μ' x1 ((hE.ext x1).set r1) m1) ?_) λ_ s' hq=>tqb (tqb hq))
 intro a C s' H' I' q ⟨m,hn⟩ gone hf ⟨nL,nC⟩;refine wpAny_assign_Name (rM I' hN hy (.inl hl) (v:=.ref a) rfl (λs2 I2 ⟨b,hb,hb2⟩=>?_) (.inr hl));have nb:C≠b:=by
  rcases hb2 with z|z
  ·rw[z];exact nL
  ·exact PZ (nC y b z)
 exact{m,hn.sameBut hb nb,λh' hs'=>{_,H',(gone _ H' s2 I2 id).2 h' hs',q}}
end
section
variable{X:Cx}{pins:List (Addr×Obj)}{σ:L2.St}{H:Hp}{s:OD}{h':Heap}{t':Nat}{ch:List Addr}
def vO (I:Inv X pins σ H s)(hf:∀b∈ch,gF X pins H b)(k:∀b o,b∉ch->s.heap.get? b=some o->h'.get? b=some o):Inv X pins σ H {s with heap:=h',toks:=t'}:=by
 have nit:∀b u,H b=some u->b∉ch:=λb u e z=>by rw[(hf b z).1] at e;cases e
 refine I.step (g':=s.gens) (d':=s.drawn) (ch:=ch) (λb hb=>{(hf b hb).2.2.2.1,(hf b hb).2.1,(hf b hb).2.2.2.2.1,(hf b hb).2.2.2.2.2}) (λb o _ _ hc e _=>k b o hc e) (λb o _ _ hc e _=>{o.slots,k b o hc e}) (λ_ _ _ _ n=>n)
  (λb o hc e=>{o,k b o hc e}) (λ_ _ e=>e) (λ_ _ _ e=>e) (λb ps e=>{#[],by rw[e];simp}) (λm hm=>?_) (λb u e=>?_) I.bare
 ·obtain⟨o,es,ep,ho,r⟩:=hm;exact{o,es,ep,k _ o (λz=>(hf _ z).2.1 rfl) ho,r}
 ·refine(I.hok b u e).stay (λc v hc q=>k c v ?_ q) (λ_ q=>q) λ_ _ q=>q;rcases hc with z|z
  ·rw[z];exact nit b u e
  ·exact nit c _ z
def rJ {T:Addr}{o:HO}(I:Inv X pins σ H s)(hf:∀b∈ch,gF X pins H b)(k:∀b o,b∉ch->s.heap.get? b=some o->h'.get? b=some o)(hT:s.heap.objs.size<=T)(new:dg X.prog X.w (upd H T o) h' T o) :
 Inv X pins σ (upd H T o) {s with heap:=h',toks:=t'}:=by
 have hn:H T=none:=I.hok.fresh hT;have nit:∀b u,H b=some u->b∉ch:=λb u e z=>by rw[(hf b z).1] at e;cases e
 refine I.step (g':=s.gens) (d':=s.drawn) (ch:=ch) (λb hb=>{(hf b hb).2.2.2.1,(hf b hb).2.1,(hf b hb).2.2.2.2.1,(hf b hb).2.2.2.2.2}) (λb o _ _ hc e _=>k b o hc e) (λb o _ _ hc e _=>{o.slots,k b o hc e})
  (λb o _ e n=>by rw[aN (PK (OY (OQ e) hT))];exact n)
  (λb o hc e=>{o,k b o hc e}) (λb xs e=>by rw[aN (bc e hn)];exact e) (λb ob u e=>by rw[aN (bc e hn)];exact e) (λb ps e=>{#[],by rw[aN (bc e hn),e];simp}) (λm hm=>?_) (λb u e=>?_) I.bare
 ·obtain⟨o,es,ep,ho,r⟩:=hm;exact{o,es,ep,k _ o (λz=>(hf _ z).2.1 rfl) ho,r}
 ·by_cases hb:b=T
  ·subst hb;rw[bW] at e;cases e;exact new
  ·rw[aN hb] at e;refine(I.hok b u e).stay (λc v hc q=>k c v ?_ q) (λc q=>by rw[aN (bc q hn)];exact q) λc xs q=>by rw[aN (bc q hn)];exact q
   rcases hc with z|z
   ·rw[z];exact nit b u e
   ·exact nit c _ z
end
noncomputable def MQ (K:OA)(a:Addr):It:=
 {λi H=>∃xs x,c9 K H a xs/\xs[i]?=some x,λi H v H'=>∃p x,H p=none/\v=.ref p/\H'=upd H p (.tup [.int i,x])/\∀xs,c9 K H a xs->xs[i]?=some x,λi H=>∃xs,c9 K H a xs/\xs.length<=i}
def ze {P:OX}{w:O6}{K:OA}{elts:List Expr}{kk:Nat}{pos:Pos}(a it e:Addr)(hne:e≠it) :
 Turn P w K (.Tuple elts kk pos) (MQ K a) [e,it] e (λi h=>(∃old,IsEnum h e it (i:Nat) old)/\h.IsListIter it a i) where
 mem:=`s
 obj:=λi h ⟨⟨old,he⟩,o,ho,c,d⟩ b hb=>by
  rcases OL.mp hb with z|z
  ·subst z;exact{_,he,λv z=>by cases z}
  ·have e:b=it:=by simpa using z
   subst e;exact{o,ho,λv z=>by rw[d] at z;cases z}
 keep:=λi h h' ⟨⟨old,he⟩,st⟩ k=>{{old,k e `s _ he},st.at λo e=>k it `s o e}
 item:=by
  intro X hP hw hK hc i pins s σ H E I hf st hg;subst hP hw hK;obtain⟨xs,x,hq,hx⟩:=hg;obtain⟨⟨old,he⟩,hit⟩:=st;obtain⟨its,rv,p,hz⟩:=I.list hq;obtain⟨u,hu,ru⟩:=rv.get hx;refine wpAny_pyNext_enum_item he hit p.isList (x:=u) (by simpa using hu) hne λh1 ho hit1 hT hsz hk=>{_,rfl,?_}
  have hT0:H s.heap.objs.size=none:=I.hok.fresh (OF _);have elt:e<s.heap.objs.size:=OQ he;refine wpAny_letOwnedTupleGo_enum (s:={s with heap:=h1,toks:=s.toks+1}) ho λh2 he2 hs2=>?_
  have he2:IsEnum h2 e it ((i+1:Nat):Int) u:=by simpa using he2
  have hT2:h2.get? s.heap.objs.size=some {cls:=.type "tuple",data:=.seq #[.int i s.toks,u]}:=(hs2.2 _ (P4 elt)).trans hT;refine{.ref s.heap.objs.size,upd H s.heap.objs.size (.tup [.int i,x]),rJ (s:=s) (t':=s.toks+1) I hf (λb o hb q=>(hs2.2 b (λz=>hb (by simp[z]))).trans (hk b o (λz=>hb (by simp[z])) (λz=>hb (by simp[z])) q)) (OF _) {?_,[.int i s.toks,u],.cons {_,rfl} (.cons ru .nil),{_,hT2,rfl,_,rfl}},rfl,
   {_,x,hT0,rfl,rfl,λys hy=>by rw[I.list_inj hy hq];exact hx},{⟨u,he2⟩,hit1.extBut hs2.extBut (PZ hne)},λb hb=>?_}
  ·show 2<=sizeLine;decide
  ·have:b<s.heap.objs.size:=by
    rcases OL.mp hb with z|z
    ·subst z;exact elt
    ·have e:b=it:=by simpa using z
     subst e;obtain⟨o,e,_⟩:=hit;exact OQ e
   rw[aN (PK this)];exact(hf b hb).1
 done:=by
  intro X hP hw hK hc i pins s σ H E I hf st hg;subst hP hw hK;obtain⟨xs,hq,hx⟩:=hg;obtain⟨⟨old,he⟩,hit⟩:=st;obtain⟨its,rv,p,hz⟩:=I.list hq;have hl:=rv.length;exact wpAny_pyNext_enum_end (I.ok.hd hc) he hit p.isList `o λh' eb=>{rfl,vO I hf (t':=s.toks) λb o hb q=>eb b o (λz=>hb (by simp[z])) q}
 self:=λ_ _ _ _ _ ⟨⟨old,he⟩,_⟩ h=>wpAny_pyIter_enum he h
section
variable{fa:Fa}{X:Cx}{a:Expr}{ga:Env->Mem->Res D}{pos p:Pos}
def cU:∀(ds:List D) (k i:Nat),(b8 k ds)[i]?=(ds[i]?).map λd=>.tup [.int ((k+i:Nat):Int),d]
 |[],_,_=>by simp[b8]
 |d::ds,k,0=>by simp[b8]
 | d :: ds, k, i + 1 => by
   have:=cU ds (k+1) i;simp only[b8,Pb,this]
   congr 1
   funext d
   congr 3
   omega
def eG:∀(ds:List D) (k:Nat),(b8 k ds).length=ds.length
 |[],_=>rfl
 |d::ds,k=>by simp[b8,eG ds]
def yR {μ0:Mu}{H0:Hp}{dd:D}{ad:Addr}(h:Rep fa X.K μ0 H0 dd (.ref ad)):dW fa X.K μ0 H0 (λM=>(fZ M dd).map (b8 0)) (MQ X.K ad):=λμ H M ds x hM e=>by
 dsimp only at e;cases e0:fZ M dd with
 |none=>rw[e0] at e;cases e
 | some es =>
   rw[e0] at e;have e:b8 0 es=ds:=OG e;subst e;obtain⟨ad',vs,ea,s,r⟩:=bS hM (Rep.extW x h) e0;cases ea;refine{λi d hd=>?_,λi hi=>{vs,s,by rw[r.length,<- eG es 0];exact hi}}
   rw[cU] at hd;cases e1:es[i]? with
   |none=>rw[e1] at hd;cases hd
   | some d0 =>
     rw[e1] at hd;have hd:D.tup [.int ((0+i:Nat):Int),d0]=d:=OG hd;subst hd;obtain⟨v,hv,rv⟩:=r.get e1;refine{⟨vs,v,s,hv⟩,λy H' ⟨q,z,hq,ey,eH,hy⟩=>?_};have:=hy vs s;rw[hv] at this;cases this;subst eH ey;refine{Ext.alloc hM hq,hM.alloc hq,q,[.int i,v],rfl,.inl (.inl bW),.int i,[v],rfl,?_,v,[],rfl,rv.ext (Ext.alloc hM hq),rfl};show V.int i=V.int ((0+i:Nat):Int);rw[Qs]
noncomputable def iF (ga:Env->Mem->Res D):Env->Mem->Res Walk:=λZ M=>(ga Z M).bind λx M=>match x with
 |.lst ds=>.ok (λ_=>some (b8 0 ds)) M
 |.frz ds=>.ok (λ_=>some (b8 0 ds)) M
 |.cell k=>.ok (λM=>(M[k]?).map (b8 0)) M
 |_=>.bad
def GO {elts:List Expr}{kk:Nat}{tp:Pos}(ha:DE fa X a ga)(hg:Gl X "enumerate")(hm:X.mg "enumerate"=none)(hs:starEach [a] X.env=[(false,eval a X.env)]):DI fa X (.Tuple elts kk tp) (.Call (.Name "enumerate" p) [a] [] pos) (iF ga):=by
 intro pins s σ H R I ⟨μ,Z,M,hE,hM,h⟩;obtain⟨x,M1,e,q⟩:=aV h;have key:(∀μ' H',RelM fa X.K μ' H' M1->∀v,Rep fa X.K μ' H' x v->∃ds,fZ M1 x=some ds)->(∀J H' μ',Ext μ H μ' H'->RelM fa X.K μ' H' M1->dW fa X.K μ' H' (λM=>(fZ M x).map (b8 0)) J->R J H')->
  wpAny (model X.prog X.w) X.A (eval (.Call (.Name "enumerate" p) [a] [] pos) X.env) (λv s1=>wpAny (model X.prog X.w) X.A (pyIter v) (EK X pins σ (.Tuple elts kk tp) R) X.xe s1) X.xe s:=λhx q=>by
  refine Call_ (iw I hg hm boot_enumerate (PM (a9 (bX ha eB hs pos pins s σ H (λvs H1=>∃v μ1,vs=[v]/\Ext μ H μ1 H1/\RelM fa X.K μ1 H1 M1/\Rep fa X.K μ1 H1 x v) I {μ,Z,M,hE,hM,?_}) λus s1 ⟨vs,H1,I1,r1,v,μ1,ev,x1,m1,rv⟩=>?_) hs rfl))
  ·rw[e];exact λv H1 μ1 x1 m1 r1=>⟨v,μ1,rfl,x1,m1,r1⟩
  subst ev;obtain⟨ds,er⟩:=hx μ1 H1 m1 v rv;obtain⟨ad,vs,rfl,s1',r⟩:=bS m1 rv er;cases r1 with
  | cons r1 rr =>
    cases rr;obtain rfl:=r1;obtain⟨its,rvs,pl,hz⟩:=I1.list s1';refine call_enumerate_list pl.isList λh1 he hit hsz hk=>?_;have I2:Inv X pins σ H1 {s1 with heap:=h1}:=I1.kept (t':=s1.toks) hk
    refine wpAny_pyIter_enum (s:={s1 with heap:=h1}) he ?_
    refine{s1.heap.objs.size+1,[s1.heap.objs.size+1,s1.heap.objs.size],_,_,H1,rfl,I2,ze ad s1.heap.objs.size (s1.heap.objs.size+1) (Nat.succ_ne_self _),{{.none,he},hit},λb hb=>?_,q _ H1 μ1 x1 m1 (yR rv)};have hb:s1.heap.objs.size<=b:=by
     rcases OL.mp hb with z|z
     ·subst z;exact Nat.le_succ _
     ·have e:b=s1.heap.objs.size:=by simpa using z
      subst e;exact OF _
    exact I1.fpOk hb (I1.hok.fresh hb)
 cases x with
 |lst ds=>exact key (λ_ _ _ _ _=>⟨ds,rfl⟩) q
 |frz ds=>exact key (λ_ _ _ _ _=>⟨ds,rfl⟩) q
 |cell k=>exact key (λμ' H' m' v ⟨ad,_,hk⟩=>let{ds,_,e,_}:=m'.mu_lt hk;⟨ds,e⟩) q
 |_=>exact q.elim
end
noncomputable def b9:Bool->Heap->Addr->Array Oz->Prop
 |true,h,a,its=>h.IsList a its
 |false,h,a,its=>h.IsTuple a its
noncomputable def ko:Bool->Heap->Addr->Addr->Nat->Prop
 |true,h,it,a,i=>h.IsListIter it a i
 |false,h,it,a,i=>h.IsTupleIter it a i
def b9.at {b:Bool}{h h':Heap}{a:Addr}{its:Array Oz}(x:b9 b h a its)(k:∀o,h.get? a=some o->h'.get? a=some o):b9 b h' a its:=by
 cases b<;>(obtain⟨o,ho,r⟩:=x;exact{o,k o ho,r})
def ko.at {b:Bool}{h h':Heap}{it a:Addr}{i:Nat}(x:ko b h it a i)(k:∀o,h.get? it=some o->h'.get? it=some o):ko b h' it a i:=by
 cases b<;>(obtain⟨o,ho,r⟩:=x;exact{o,k o ho,r})
def ko.obj {b:Bool}{h:Heap}{it a:Addr}{i:Nat}(x:ko b h it a i):∃o,h.get? it=some o/\∀v,o.data≠.cell v:=by
 cases b<;>(obtain⟨o,ho,c,d⟩:=x;exact{o,ho,λv z=>by rw[d] at z;cases z})
section
variable{prog:OX}{w:O6}{A:Pu}{E:Oz->OD->Prop}{s:OD}
def vD {a b:Nat}(h:a≠b):@Ne Addr a b:=h
def Hj {T:Addr}{its:Array Oz}{k:Nat}{x:Oz}{Q:Unit->OD->Prop}(hT:s.heap.get? T=some {cls:=.type "tuple",data:=.seq its})(hz:its.size<=64)
 (h:∀h',h'.get? T=some {cls:=.type "tuple",data:=.seq (its.setIfInBounds k x)}->Heap.SameBut T s.heap h'->Q () {s with heap:=h'}) :
 wpAny (model prog w) A (updateSeq T (·.setIfInBounds k x)) Q E s:=by
 refine wpAny_updateSeq hT rfl (h _ ?_ (Heap.SameBut.update ..)) (OI hz `d) (by rw[Array.size_setIfInBounds];exact OI hz `d)
 rw[Qd _ hT rfl];simp[Obj.mapSeq]
def xI {b:Bool}{it a:Addr}{i:Nat}{its:Array Oz}{Q:Oz->OD->Prop}(hh:A.handled=none)(hit:ko b s.heap it a i)(hl:b9 b s.heap a its)
 (hQ:∀x h',its[i]?=some x->ko b h' it a (i+1)->Heap.SameBut it s.heap h'->Q x {s with heap:=h'})
 (hE:its[i]?=none->∀h' e,Heap.ExtBut it s.heap h'->(∃o,h'.get? e=some o/\o.cls=.type "StopIteration")->E (.ref e) {s with heap:=h'}):wpAny (model prog w) A (Builtin.SmallTypes.nextOf (.ref it)) Q E s:=by
 cases b with
 | true => cases hx : its[i]? with
   |some x=>exact wpAny_nextOf_list_item hit hl hx λh'=>hQ x h' hx
   |none=>exact wpAny_nextOf_list_end hh hit hl hx (hE hx)
 | false =>
   have hit:s.heap.IsTupleIter it a i:=hit;obtain⟨o,ho,hc,hd⟩:=id hit;obtain⟨ol,hol,_,nl,hdl⟩:=hl;unfold Builtin.SmallTypes.nextOf;refine tqa (wpAny_callSpecial?_slot (name:=Str.ofString "__next__") hit.typeIs F.slot_tuple_iterator_next
    (wpAny_call_entry F.slot_tuple_iterator_next hit.typeIs F.entry_tuple_iterator_next ?_ (F.args_tuple_iterator_next_1 _)))
   show wpAny _ _ (field (.ref it) 0 >>= _) _ _ s;refine tqa (tqf ho hd (x:=.ref a) rfl ?_);show wpAny _ _ (if (Value.ref a==Value.none)=true then _ else _) _ _ s;rw[if_neg (show ¬ ((Value.ref a==Value.none)=true) from Pc)];show wpAny _ _ (field (.ref it) 1 >>= _) _ _ s;refine tqa (tqf ho hd (x:=.int i 0) rfl ?_);show wpAny _ _ (seqItems? (.ref a) >>= _) _ _ s;refine tqa (wpAny_seqItems hol hdl ?_);cases hx:its[i]? with
   | some x =>
     simp only[Int.toNat_natCast,hx];refine tqa (wpAny_setField ho hd `s (tqb {x,rfl,tqb (hQ x _ hx ?_ (Heap.SameBut.update ..))}))
     exact{_,Qd _ ho (QB (P7 hd _)),(Obj.cls_mapFields ..).trans hc,by
      rw[P7 hd];simp[rawInt]}
   | none =>
     simp only[Int.toNat_natCast,hx];refine tqa (wpAny_rule (tqa (wpAny_setField ho hd `s ?_)))
     show wpAny _ _ (newExc (.type "StopIteration") [] >>= _) _ _ _;refine tqa ?_;simp only[newExc,newTuple];refine tqa (wpAny_newObj_type ?_ (by size_fits))
     refine tqa (m:=firstArgMember _ _) (wpAny_of_eq (a:=Value.none) (by first|rfl|(simp only[firstArgMember];rfl)) ?_)
     refine wpAny_newObj_type ?_ (by size_fits)
     simp only[raiseNew];refine tqa (wpAny_handled ?_);first|rw[show A.in1.handled=none from hh]|rw[hh]
     refine tqa (tqb (wpAny_throw ?_));exact hE hx _ _ (((Heap.SameBut.update ..).extBut.push _).push _) {_,OZ _ rfl,rfl}
abbrev jY (us:Array Oz):Obj:={cls:=.type "tuple",data:=.seq us}
noncomputable def qA (n k j:Nat):List Oz:=(List.range' k j).map λk=>Value.ref (n+k)
noncomputable def yz (n m:Nat)(h h':Heap):Prop:=∀(c:Nat) o,(c<n\/c=n+m\/n+m+2<c)->h.get? c=some o->h'.get? c=some o
noncomputable def yE (n i k:Nat)(l:List (Bool×Nat))(h:Heap):Prop:=∀(j:Nat) b a,l[j]?=some (b,a)->ko b h (n+j) a (if j<k then i+1 else i)
noncomputable def Ko (n:Nat)(l:List (Bool×Nat))(xs:Nat->Array Oz)(h:Heap):Prop:=∀(j:Nat) b a,l[j]?=some (b,a)->a<n/\b9 b h a (xs j)
abbrev nX (h:Heap)(n m:Nat)(v:Oz):Prop:=IsZip h (n+m+2) (n+m) (n+m+1) v
noncomputable def Ob (n m i k:Nat)(l:List (Bool×Nat))(xs:Nat->Array Oz)(h0 h:Heap):Prop:=nX h n m .ellipsis/\(∃us:Array Oz,us.size=m/\(∀j<k,us[j]?=(xs j)[i]?)/\h.get? (n+m+1)=some (jY us))/\yE n i k l h/\Ko n l xs h/\yz n m h0 h/\h.objs.size=h0.objs.size
def Ea {M:Model}{β:Type}{f:Oz×Nat->β->Sem (ForInStep β)}{b:β}{Q:β->OD->Prop}(n m:Nat)(I:Nat->OD->Prop)
 (hs:∀k s,k<m->I k s->wpAny M A (f (.ref (n+k),k) b) (λr s'=>r=.yield b/\I (k+1) s') E s) (hQ:∀s,I m s->Q b s):∀(j k:Nat) (s:OD),k+j=m->I k s->wpAny M A (forIn ((qA n k j).zipIdx k) b f) Q E s
 |0,k,s,e,h=>tqb (hQ s (e ▸ h))
 | j + 1, k, s, e, h => by
   show wpAny M A (forIn ((Value.ref (n+k),k)::(qA n (k+1) j).zipIdx (k+1)) b f) Q E s;rw[List.forIn_cons];refine tqa (a9 (hs k s `a h) ?_)
   rintro _ s' ⟨rfl,h'⟩;exact Ea n m I hs hQ j (k+1) s' `a h'
def tG {n m i:Nat}{l:List (Bool×Nat)}{xs:Nat->Array Oz}{us:Array Oz}{Q:Oz->OD->Prop}(hh:A.handled=none)(hl:l.length=m+1)(h64:m<64)
 (hz:nX s.heap n (m+1) .none) (hTI:s.heap.get? (n+(m+1))=some (jY (qA n 0 (m+1)).toArray)) (hTO:s.heap.get? (n+(m+1)+1)=some (jY us)) (hu:us.size=m+1) (hi:yE n i 0 l s.heap) (hq:Ko n l xs s.heap)
 (hQ:∀h' us,us.size=m+1->(∀k<m+1,us[k]?=(xs k)[i]?)->nX h' n (m+1) (rawInt s.heap.objs.size)->h'.get? (n+(m+1)+1)=some (jY us)->yE n (i+1) 0 l h'->h'.get? s.heap.objs.size=some (jY us)->yz n (m+1) s.heap h'->Q (.ref s.heap.objs.size) {s with heap:=h'})
 (hE:∀h' e k,k<m+1->(xs k)[i]?=none->yz n (m+1) s.heap h'->(∃o,h'.get? e=some o/\o.cls=.type "StopIteration")->E (.ref e) {s with heap:=h'}) :
 wpAny (model prog w) A (Builtin.«zip.__next__» {[.ref (n+(m+1)+2)],[]}) (λfin s'=>∃v,fin=.done (.ret v)/\Q v s') E s:=by
 show wpAny _ _ (field (.ref (n+(m+1)+2)) 2 >>= _) _ _ _;refine tqa (tqf hz rfl (x:=.bool false) rfl ?_);show wpAny _ _ (field (.ref (n+(m+1)+2)) 3 >>= _) _ _ _;refine tqa (tqf hz rfl (x:=.ref (n+(m+1))) rfl ?_);refine tqa (wpAny_seqItems hTI rfl ?_);show wpAny _ _ (Builtin.SmallTypes.ownedTupleIsFree (.ref (n+(m+1)+2)) >>= _) _ _ _;refine tqa ?_;unfold Builtin.SmallTypes.ownedTupleIsFree;refine tqa (tqf hz rfl (x:=.none) rfl (tqb ?_));simp only[if_true];refine tqa (wpAny_rule ?_);refine tqa (tqf hz rfl (x:=.ref (n+(m+1)+1)) rfl ?_);refine tqa (wpAny_setField_rec hz `s λh0 hz0 hs0=>?_)
 have u0:∀(c:Nat) o,c≠n+(m+1)+2->s.heap.get? c=some o->h0.get? c=some o:=λc o ne=>hs0.extBut c o ne;have mm:∀{j b a},l[j]?=some (b,a)->j<m+1:=λe=>hl ▸ (Oy.mp e).1;refine tqa (Ea n (m+1) (λk s'=>∃h,s'={s with heap:=h}/\Ob n (m+1) i k l xs s.heap h) ?_ ?_ (m+1) 0 _ (Qs _) {h0,rfl,hz0,{us,hu,λ_ z=>absurd z (Nat.not_lt_zero _),u0 _ _ `a hTO},λj b a e=>(hi j b a e).at λo=>u0 _ o (by have:=mm e;omega),λj b a e=>{(hq j b a e).1,(hq j b a e).2.at λo=>u0 _ o (by have:=(hq j b a e).1;omega)},λc o hc=>u0 c o `a,hs0.1})
 ·rintro k _ hk ⟨h,rfl,hz,⟨us,hu,hx,hT⟩,hi,hq,kp,sz⟩;obtain⟨⟨b,a⟩,e⟩:∃p,l[k]?=some p:={_,OW `a}
  have it:=hi k b a e;rw[if_neg (PR k)] at it;refine tqa (wpAny_onRaise ?_);show wpAny _ _ (Builtin.SmallTypes.nextOf (.ref (n+k)) >>= _) _ _ _;refine tqa (xI hh it (hq k b a e).2 (λx h1 ex j1 hs1=>tqb ?_) λen h1 e1 hs1 ⟨oe,hoe,hce⟩=>?_)
  ·have hT1:=hs1.extBut _ _ (vD `a) hT
   refine tqa (wpAny_seqItems hT1 rfl ?_);refine tqa (Hj hT1 `a λh2 hT2 hs2=>?_)
   have up:∀(c:Nat) o,c≠n+k->c≠n+(m+1)+1->h.get? c=some o->h2.get? c=some o:=λc o x y z=>hs2.extBut c o y (hs1.extBut c o x z);refine tqa (wpAny_letGo (tqb {rfl,h2,rfl,up _ _ `a `a hz,{_,(Array.size_setIfInBounds ..).trans hu,λj hj=>?_,hT2},λj b' a' e'=>?_,λj b a e=>{(hq j b a e).1,(hq j b a e).2.at λo=>up _ o (by have:=(hq j b a e).1;omega) (by have:=(hq j b a e).1;omega)},λc o hc x=>up c o `a `a (kp c o hc x),by rw[hs2.1,hs1.1,sz]}))
   ·by_cases jk:j=k
    ·subst jk;rw[Array.getElem?_setIfInBounds_self_of_lt `a,ex]
    ·rw[Array.getElem?_setIfInBounds_ne (PZ jk),hx j `a]
   ·by_cases jk:j=k
    ·subst jk;cases e.symm.trans e';rw[if_pos (Nat.lt_succ_self _)];exact j1.at λo=>hs2.extBut _ o (vD `a)
    ·have q:=hi j b' a' e';have:=mm e';rw[show(if j<k+1 then i+1 else i)=if j<k then i+1 else i by split<;>split<;>omega]
     exact q.at λo=>up _ o `a `a
  ·have hz1:=hs1 _ _ (vD `a) hz
   have hez:e1≠n+(m+1)+2:=λx=>by subst x;rw[hz1] at hoe;cases hoe;simp at hce
   exact wpAny_setField_rec hz1 `s λh2 _ hs2=>hE h2 e1 k hk en (λc o hc x=>hs2.extBut _ _ (vD `a) (hs1 _ _ (vD `a) (kp c o hc x))) {oe,hs2.extBut _ _ hez hoe,hce}
 ·rintro _ ⟨h4,rfl,hz4,⟨us,hu,hx,hT⟩,hi,hq,kp,sz4⟩;refine tqa (wpAny_seqItems hT rfl ?_);refine tqa (wpAny_newTuple (hsz:=OI (show us.toList.length<=64 by rw[Qn];omega) `d) ?_)
  have hzlt:n+(m+1)+2<h4.objs.size:=OQ hz4;show wpAny _ _ (Builtin.SmallTypes.ownedTupleHandOut (.ref (n+(m+1)+2)) (.ref h4.objs.size) >>= _) _ _ _;refine tqa ?_;unfold Builtin.SmallTypes.ownedTupleHandOut;have hz6:nX (h4.push (jY us)) n (m+1) .ellipsis:=OE _ hz4;refine tqa (wpAny_setField_rec hz6 `s λh7 hz7 hs7=>?_)
  replace hz7:nX h7 n (m+1) (rawInt h4.objs.size):=hz7;refine wpAny_setField_rec hz7 `s λh8 hz8 hs8=>?_
  have up:∀(c:Nat) o,c≠n+(m+1)+2->(h4.push (jY us)).get? c=some o->h8.get? c=some o:=λc o c1 e=>hs8.extBut _ _ c1 (hs7.extBut _ _ c1 e);refine tqb {_,rfl,?_};show Q (.ref h4.objs.size) _;have hT8:=up h4.objs.size _ (P4 hzlt) (OZ _ rfl);rw[sz4] at hT8 hz8 ⊢;refine hQ h8 us hu hx hz8 (up _ _ `a (OE _ hT)) (λj b a e=>?_) hT8 λc o hc e=>up c o `a (OE _ (kp c o hc e))
  have q:=hi j b a e;rw[if_pos (mm e)] at q;exact q.at λo e'=>up _ o (by have:=mm e;omega) (OE _ e')
end
noncomputable def kW (K:OA)(H:Hp):Bool->Addr->List V->Prop
 |true,a,xs=>c9 K H a xs
 |false,a,xs=>dQ K H a xs
def fc:D->Bool
 |.tup _=>false
 |_=>true
noncomputable def dO:D->Bool
 |.tup _=>true
 |.lst _=>true
 |.frz _=>true
 |.cell _=>true
 |_=>false
def wa {X:Cx}{pins:List (Addr×Obj)}{σ:L2.St}{H:Hp}{s:OD}{b:Bool}{a:Addr}{xs:List V}(I:Inv X pins σ H s)(h:kW X.K H b a xs):∃its:List Oz,Vals xs its/\b9 b s.heap a its.toArray:=by
 cases b with
 |true=>obtain⟨its,r,p,_⟩:=I.list h;exact⟨its,r,p.isList⟩
 |false=>obtain⟨its,r,p,_⟩:=I.tuple h;exact⟨its,r,p⟩
def ow {X:Cx}{pins:List (Addr×Obj)}{σ:L2.St}{H:Hp}{s:OD}{b:Bool}{a:Addr}{xs ys:List V}(I:Inv X pins σ H s)(h:kW X.K H b a xs)(h':kW X.K H b a ys):xs=ys:=by
 cases b with
 |true=>exact I.list_inj h h'
 |false=>exact I.tuple_inj h h'
def iQ {fa:Fa}{X:Cx}{μ:Mu}{H:Hp}{M:Mem}{d:D}{a:Addr}{ds:List D}(hM:RelM fa X.K μ H M)(h:Rep fa X.K μ H d (.ref a))(e:cm M d=some ds):∃vs,kW X.K H (fc d) a vs/\aR fa X.K μ H ds vs:=by
 cases d with
 |tup xs=>cases e;obtain⟨a',vs,e,s,r⟩:=h;cases e;exact⟨vs,s,r⟩
 |lst xs=>obtain⟨a',vs,e',s,r⟩:=bS hM h (show fZ M (.lst xs)=some ds from e);cases e';exact⟨vs,s,r⟩
 |frz xs=>obtain⟨a',vs,e',s,r⟩:=bS hM h (show fZ M (.frz xs)=some ds from e);cases e';exact⟨vs,s,r⟩
 |cell k=>obtain⟨a',vs,e',s,r⟩:=bS hM h (show fZ M (.cell k)=some ds from e);cases e';exact⟨vs,s,r⟩
 |_=>cases e
def j4 {fa:Fa}{X:Cx}{pins:List (Addr×Obj)}{σ:L2.St}{μ:Mu}{H:Hp}{s:OD}{M:Mem}{d:D}{v:V}(I:Inv X pins σ H s)(hM:RelM fa X.K μ H M)(h:Rep fa X.K μ H d v)(e:dO d=true):∃(a:Nat) (its:Array Oz),v=.ref a/\b9 (fc d) s.heap a its:=by
 have key:∀ds,cm M d=some ds->∃(a:Nat) (its:Array Oz),v=.ref a/\b9 (fc d) s.heap a its:=λds z=>by
  obtain⟨a,vs,rfl,_,_⟩:=j8 hM h z;obtain⟨vs,s1,_⟩:=iQ hM h z;obtain⟨its,_,p⟩:=wa I s1;exact⟨a,its.toArray,rfl,p⟩
 cases d with
 |tup xs=>exact key xs rfl
 |lst xs=>exact key xs rfl
 |frz xs=>exact key xs rfl
 | cell k =>
   obtain⟨a,e,hk⟩:=id h;obtain⟨ds,_,z,_⟩:=hM.mu_lt hk;exact key ds z
 |_=>cases e
def b9.lt {b:Bool}{h:Heap}{a:Addr}{its:Array Oz}(x:b9 b h a its):a<h.objs.size:=by
 cases b<;>(obtain⟨o,ho,r⟩:=x;exact OQ ho)
def b9.push {b:Bool}{h:Heap}{a:Addr}{its:Array Oz}(x:b9 b h a its)(ob:Obj):b9 b (h.push ob) a its:=by
 cases b<;>(obtain⟨o,ho,r⟩:=x;exact{o,OE _ ho,r})
noncomputable def iA (b:Bool)(a:Addr):Obj:={cls:=.type (if b then "list_iterator" else "tuple_iterator"),data:=.fields #[.ref a,.int 0 0]}
def ko.new {b:Bool}{h:Heap}{it a:Addr}(e:h.get? it=some (iA b a)):ko b h it a 0:=by
 cases b<;>exact{_,e,rfl,rfl}
def iq {prog:OX}{w:O6}{A:Pu}{E:Oz->OD->Prop}{s:OD}{b:Bool}{a:Addr}{its:Array Oz}{Q:Oz->OD->Prop}(h:b9 b s.heap a its)(hQ:Q (.ref s.heap.objs.size) {s with heap:=s.heap.push (iA b a)}):wpAny (model prog w) A (pyIter (.ref a)) Q E s:=by
 cases b with
 |true=>exact wpAny_pyIter_list h hQ
 |false=>exact wpAny_pyIter_tuple h hQ
abbrev kn:=List (Bool×Nat)
noncomputable def EM (K:OA)(l:kn):It:=
 {λi H => ∀ (j : Nat) b a, l[j]? = some (b, a) -> ∃ xs x, kW K H b a xs /\ xs[i]? = some x,
  λi H v H'=>∃p ys,H p=none/\v=.ref p/\H'=upd H p (.tup ys)/\ys.length=l.length/\∀(j:Nat) b a,l[j]?=some (b,a)->∀xs,kW K H b a xs->ys[j]?=xs[i]?,
  λi H=>(∀(j:Nat) b a,l[j]?=some (b,a)->∃xs,kW K H b a xs)/\∃(j:Nat) (b:Bool) (a:Nat) (xs:List V),l[j]?=some (b,a)/\kW K H b a xs/\xs.length<=i}
noncomputable def tB (n m:Nat)(l:kn)(i:Nat)(h:Heap):Prop:=nX h n (m+1) .none/\h.get? (n+(m+1))=some (jY (qA n 0 (m+1)).toArray)/\(∃us:Array Oz,us.size=m+1/\h.get? (n+(m+1)+1)=some (jY us))/\yE n i 0 l h
def Dn (n m:Nat):List Addr:=List.range' n (m+4)
def d9 {n m b:Nat}:b∈Dn n m↔n<=b/\b<n+(m+4):=List.mem_range'_1
def DP {X:Cx}{pins:List (Addr×Obj)}{σ:L2.St}{H:Hp}{s:OD}{l:kn}(I:Inv X pins σ H s)(h:∀(j:Nat) b a,l[j]?=some (b,a)->∃xs,kW X.K H b a xs) :
 ∃(vs:Nat->List V) (ws:Nat->List Oz),∀(j:Nat) b a,l[j]?=some (b,a)->kW X.K H b a (vs j)/\Vals (vs j) (ws j)/\b9 b s.heap a (ws j).toArray:=by
 obtain⟨f,hf⟩:=Classical.skolem.mp λj:Nat=>show ∃p:List V×List Oz,∀b a,l[j]?=some (b,a)->kW X.K H b a p.1/\Vals p.1 p.2/\b9 b s.heap a p.2.toArray from by
  cases e:l[j]? with
  |none=>exact{([],[]),λ_ _ z=>by cases z}
  | some p =>
    obtain⟨xs,hx⟩:=h j p.1 p.2 e;obtain⟨its,r,q⟩:=wa I hx;exact{(xs,its),λb' a' z=>by cases z;exact⟨hx,r,q⟩}
 exact{λj=>(f j).1,λj=>(f j).2,hf}
def Dw:∀{us:List Oz}{R:Nat->V->Prop},(∀(k:Nat) w,us[k]?=some w->∃y,RelV y w/\R k y)->∃ys,Vals ys us/\∀(k:Nat) y,ys[k]?=some y->R k y
 |[],R,_=>{[],.nil,λ_ _ z=>by simp at z}
 | w :: r, R, h => by
   obtain⟨y,e,q⟩:=h 0 w rfl;obtain⟨ys,v,t⟩:=Dw (R:=λk=>R (k+1)) λk w e=>h (k+1) w e;exact{y::ys,.cons e v,λk z e=>match k,e with
    |0,e=>by cases e;exact q
    |k+1,e=>t k z e}
def tL {P:OX}{w:O6}{K:OA}{elts:List Expr}{kk:Nat}{pos:Pos}(n m:Nat)(l:kn)(hl:l.length=m+1)(h64:m<64)(hn:∀(j:Nat) b a,l[j]?=some (b,a)->a<n) :
 Turn P w K (.Tuple elts kk pos) (EM K l) (Dn n m) (n+(m+1)+2) (λi h=>tB n m l i h) where
 mem:=d9.mpr `a
 obj:=λi h ⟨h1,h2,⟨us,_,h3⟩,hi⟩ (b:Nat) hb=>by
  replace hb:=d9.mp hb;by_cases c:b<n+(m+1)
  ·obtain⟨j,rfl⟩:∃j,b=n+j:={b-n,`a}
   exact(hi j _ _ (OW `a)).obj
  ·rcases(show b=n+(m+1)\/b=n+(m+1)+1\/b=n+(m+1)+2 by omega) with rfl|rfl|rfl
   ·exact{_,h2,λv z=>by cases z}
   ·exact{_,h3,λv z=>by cases z}
   ·exact{_,h1,λv z=>by cases z}
 keep:=λi h h' ⟨h1,h2,⟨us,hu,h3⟩,hi⟩ k=>{k _ (d9.mpr `a) _ h1,k _ (d9.mpr `a) _ h2,{us,hu,k _ (d9.mpr `a) _ h3},λj b a e=>(hi j b a e).at (k _ (d9.mpr (by have:=(Oy.mp e).1;omega)))}
 item:=by
  intro X hP hw hK hc i pins s σ H E I hf {h1,h2,⟨us,hu,h3⟩,hi} hg;subst hP hw hK;obtain⟨vs,ws,hv⟩:=DP I λj b a e=>(hg j b a e).imp λ_ ⟨_,h,_⟩=>h;have it:∀k,k<m+1->∃x w b a,l[k]?=some (b,a)/\(vs k)[i]?=some x/\(ws k)[i]?=some w/\RelV x w:=λk hk=>by
   have e:l[k]?=some (l[k]'(`a)):=OW _
   obtain⟨xs,x,hx,ex⟩:=hg k _ _ e;obtain⟨q1,q2,_⟩:=hv k _ _ e;rw[ow I hx q1] at ex;obtain⟨w,hw,r⟩:=q2.get ex;exact{x,w,_,_,e,ex,hw,r}
  have hT:s.TypeIs (.ref (n+(m+1)+2)) "zip":={_,h1,rfl};unfold pyNext;refine tqa (wpAny_attempt (wpAny_callSpecial?_slot (name:=Str.ofString "__next__") hT F.slot_zip_next
   (wpAny_call_entry F.slot_zip_next hT F.entry_zip_next
    (tG (E:=_) (xs:=λj=>(ws j).toArray) (I.ok.hd hc) hl h64 h1 h2 h3 hu hi (λj b a e=>{hn j b a e,(hv j b a e).2.2}) (λh4 us hu hx z1 z2 g hTT hk=>tqb {_,rfl,?_}) λh' e k hk en _ _=>?_) (F.args_zip_next_1 _))))
  ·have zlt:n+(m+1)+2<s.heap.objs.size:=OQ h1;refine wpAny_letOwnedTupleGo_zip (s:={s with heap:=h4}) z1 λh5 hz5 hs5=>?_
   have up:∀(c:Nat) o,c≠n+(m+1)+2->h4.get? c=some o->h5.get? c=some o:=λc o=>hs5.extBut c o;obtain⟨ys,vy,ty⟩:=Dw (us:=us.toList) (R:=λj y=>(vs j)[i]?=some y) λk w e=>by
    have hk:k<m+1:=by have:=(Oy.mp e).1;rw[Qn] at this;omega
    obtain⟨x,w',_,_,_,ex,ew,r⟩:=it k hk;have q:=hx k hk;rw[Array.getElem?_toList] at e;simp only[List.getElem?_toArray] at q;rw[e,ew] at q;cases q;exact⟨x,r,ex⟩
   have ly:ys.length=m+1:=by rw[vy.length,Qn,hu]
   refine{.ref s.heap.objs.size,upd H s.heap.objs.size (.tup ys),rJ (s:=s) (t':=s.toks) I hf (λ(b:Nat) o hb q=>up b o (λz=>hb (d9.mpr `a)) (hk b o (by rw[d9] at hb;omega) q)) (OF _) {by rw[ly];exact OI (show m+1<=64 by omega) `d,us.toList,vy,{_,up _ _ (P4 zlt) hTT,rfl,_,rfl}},rfl,
    {_,ys,I.hok.fresh (OF _),rfl,rfl,ly.trans hl.symm,λj b a e xs hx=>?_},{hz5,up _ _ `a (hk _ _ `a h2),{us,hu,up _ _ `a z2},λj b a e=>(g j b a e).at λo=>up _ o (by have:=(Oy.mp e).1;omega)},λ(b:Nat) hb=>?_}
   ·have hj:j<ys.length:=by have:=(Oy.mp e).1;omega
    have e1:=OW hj;rw[ow I hx (hv j b a e).1,ty j _ e1,e1]
   ·rw[d9] at hb;rw[aN (PK (by omega:(b:Nat)<s.heap.objs.size))];exact(hf b (d9.mpr hb)).1
  ·obtain⟨_,_,_,_,_,_,ew,_⟩:=it k hk;simp only[List.getElem?_toArray] at en;rw[ew] at en;cases en
 done:=by
  intro X hP hw hK hc i pins s σ H E I hf {h1,h2,⟨us,hu,h3⟩,hi} ⟨hs,k,b,a,xs,ek,hq,le⟩;subst hP hw hK;obtain⟨vs,ws,hv⟩:=DP I hs;have hT:s.TypeIs (.ref (n+(m+1)+2)) "zip":={_,h1,rfl};unfold pyNext;refine tqa (wpAny_attempt (wpAny_callSpecial?_slot (name:=Str.ofString "__next__") hT F.slot_zip_next
   (wpAny_call_entry F.slot_zip_next hT F.entry_zip_next
    (tG (E:=_) (xs:=λj=>(ws j).toArray) (I.ok.hd hc) hl h64 h1 h2 h3 hu hi (λj b a e=>{hn j b a e,(hv j b a e).2.2}) (λh4 us hu hx _ _ _ _ _=>?_) λh' e k _ _ hk he=>?_) (F.args_zip_next_1 _))))
  ·exfalso;have hk:=(Oy.mp ek).1;have q:=hx k `a
   obtain⟨q1,q2,_⟩:=hv k b a ek;rw[Array.getElem?_eq_getElem `a] at q
   simp only[List.getElem?_toArray] at q;rw[PY (by rw[<- q2.length,ow I q1 hq];exact le)] at q
   cases q
  ·obtain⟨o,ho,hcl⟩:=he;refine tqa (wpAny_isInstance (T:="StopIteration") (b:=true) ⟨o,ho,hcl⟩ isSubtype_stop ?_);exact tqb {rfl,vO (s:=s) I hf (t':=s.toks) λ(b:Nat) o hb q=>hk b o (by rw[d9] at hb;omega) q}
 self:=λ_ _ _ _ _ st h=>wpAny_pyIter_zip st.1 h
noncomputable def jc (h:Heap):kn->Heap
 |[]=>h
 |p::r=>jc (h.push (iA p.1 p.2)) r
noncomputable def sX (h:Heap):kn->List Oz
 |[]=>[]
 |p::r=>.ref h.objs.size::sX (h.push (iA p.1 p.2)) r
def pI:∀{h:Heap}{l:kn},(jc h l).objs.size=h.objs.size+l.length
 |_,[]=>rfl
 |h,p::r=>by show(jc _ r).objs.size=_;rw[pI,Heap.size_push,List.length_cons];omega
def mJ:∀{l:kn}{h:Heap}{c:Nat}{o:Obj},h.get? c=some o->(jc h l).get? c=some o
 |[],_,_,_,e=>e
 |_::r,_,_,_,e=>mJ (l:=r) (OE _ e)
def rW:∀{l:kn}{h:Heap}{j:Nat}{p:Bool×Nat},l[j]?=some p->(jc h l).get? (h.objs.size+j)=some (iA p.1 p.2)
 |_::r,h,0,_,e=>by cases e;exact mJ (l:=r) (OZ _ rfl)
 | q :: r, h, j + 1, _, e => by
   have:=rW (l:=r) (h:=h.push (iA q.1 q.2)) (j:=j) e;rw[Heap.size_push,Nat.add_assoc,Nat.add_comm 1] at this;exact this
def uq:∀{l:kn}{h:Heap}{n k:Nat},h.objs.size=n+k->sX h l=qA n k l.length
 |[],_,_,_,_=>rfl
 | p :: r, h, n, k, e => by
   have:=uq (l:=r) (h:=h.push (iA p.1 p.2)) (n:=n) (k:=k+1) (by rw[Heap.size_push,e];rfl)
   show Value.ref h.objs.size::sX _ r=Value.ref (n+k)::qA n (k+1) r.length;rw[this,e]
abbrev Dm (h:Heap)(l:kn):Heap:=(jc h l).push (jY (sX h l).toArray)
abbrev vN (h:Heap)(l:kn):Heap:=(Dm h l).push (jY (l.map λ_=>Value.none).toArray)
abbrev rE (h:Heap)(l:kn):Heap:=(vN h l).push {cls:=.type "zip",data:=.fields #[.none,.bool false,.bool false,.ref (jc h l).objs.size,.ref (Dm h l).objs.size]}
def vM (h:Heap){l:kn}{m:Nat}(hl:l.length=m+1):(vN h l).objs.size=h.objs.size+(m+1)+2/\tB h.objs.size m l 0 (rE h l)/\∀c o,h.get? c=some o->(rE h l).get? c=some o:=by
 have s0:(jc h l).objs.size=h.objs.size+(m+1):=by rw[pI,hl]
 have s1:(Dm h l).objs.size=h.objs.size+(m+1)+1:=by rw[Heap.size_push,s0]
 have s2:(vN h l).objs.size=h.objs.size+(m+1)+2:=by rw[Heap.size_push,s1]
 have up:∀{c:Nat}{o},(jc h l).get? c=some o->(rE h l).get? c=some o:=λe=>OE _ (OE _ (OE _ e));have g1:(rE h l).get? (jc h l).objs.size=some _:=OE _ (OE _ (OZ _ rfl));have g2:(rE h l).get? (Dm h l).objs.size=some _:=OE _ (OZ _ rfl);have g3:(rE h l).get? (vN h l).objs.size=some _:=OZ _ rfl;rw[s0,uq (Nat.add_zero _).symm,hl] at g1;rw[s1] at g2;rw[s2,s1,s0] at g3;exact{s2,{g3,g1,{_,by simp[hl],g2},λj b a e=>ko.new (up (rW e))},λc o e=>up (mJ e)}
def xQ (b0:Bool)(a0:Nat)(b1:Bool)(a1:Nat)(xs0 xs1:Array Oz) :
 Meets (Builtin.«zip.__new__» {[.type "zip",.ref a0,.ref a1],[]}) (λ_ R s=>b9 b0 s.heap a0 xs0/\b9 b1 s.heap a1 xs1/\
  R (.ok (.ret (.ref (vN s.heap [(b0,a0),(b1,a1)]).objs.size))) {s with heap:=rE s.heap [(b0,a0),(b1,a1)]}):=
 .of_wp λprog w A R s h=>by
  obtain⟨hp,g,d,tk,os⟩:=s;obtain⟨q0,q1,h⟩:=h;have hsub:=sub_zip;have L0:b9 b0 (Shared.heap ⟨hp,g,d,tk,os⟩) a0 xs0:=q0;have L1:b9 b1 (Shared.heap {hp.push (iA b0 a0),g,d,tk,os}) a1 xs1:=(q1).push _;wp_walk using iq L0,iq L1
  exact{_,rfl,h}
def xP (b0:Bool)(a0:Nat)(b1:Bool)(a1:Nat)(b2:Bool)(a2:Nat)(xs0 xs1 xs2:Array Oz) :
 Meets (Builtin.«zip.__new__» {[.type "zip",.ref a0,.ref a1,.ref a2],[]}) (λ_ R s=>b9 b0 s.heap a0 xs0/\b9 b1 s.heap a1 xs1/\b9 b2 s.heap a2 xs2/\
  R (.ok (.ret (.ref (vN s.heap [(b0,a0),(b1,a1),(b2,a2)]).objs.size))) {s with heap:=rE s.heap [(b0,a0),(b1,a1),(b2,a2)]}):=
 .of_wp λprog w A R s h=>by
  obtain⟨hp,g,d,tk,os⟩:=s;obtain⟨q0,q1,q2,h⟩:=h;have hsub:=sub_zip;have L0:b9 b0 (Shared.heap ⟨hp,g,d,tk,os⟩) a0 xs0:=q0;have L1:b9 b1 (Shared.heap {hp.push (iA b0 a0),g,d,tk,os}) a1 xs1:=(q1).push _;have L2:b9 b2 (Shared.heap {(hp.push (iA b0 a0)).push (iA b1 a1),g,d,tk,os}) a2 xs2:=((q2).push _).push _;wp_walk using iq L0,iq L1,iq L2
  exact{_,rfl,h}
def qp (a b c:Oz):checkTypeCall "zip" {[a,b,c],[]}=pure ():=by kernel_rfl
def sR (a b c:Oz):checkBuiltinCall "zip.__new__" {[.type "zip",a,b,c],[]}=pure ():=by kernel_rfl
def m8 (a b c d:Oz):argsOk "object.__init__" {[a,b,c,d],[]}:=by
 unfold argsOk;rw[signature?_of (id:="object.__init__") (n:=['_','_','t','i','n','i','_','_']) (o:=['t','c','e','j','b','o']) (by kernel_rfl) F.owner_object];kernel_rfl
section
variable{prog:OX}{w:O6}{A:Pu}{E:Oz->OD->Prop}{s:OD}{a0 a1 a2:Nat}{b0 b1 b2:Bool}{xs0 xs1 xs2:Array Oz}{Q:Oz->OD->Prop}
def A0 (q0:b9 b0 s.heap a0 xs0)(q1:b9 b1 s.heap a1 xs1)(h:∀h',tB s.heap.objs.size 1 [(b0,a0),(b1,a1)] 0 h'->(∀c o,s.heap.get? c=some o->h'.get? c=some o)->Q (.ref (s.heap.objs.size+2+2)) {s with heap:=h'}) :
 wpAny (model prog w) A (call (.type "zip") [.ref a0,.ref a1]) Q E s:=by
 obtain⟨z,y,x⟩:=vM s.heap (l:=[(b0,a0),(b1,a1)]) (m:=1) rfl;refine callType_new F.called_zip `d (F.typeCall_zip_2 _ _) (F.newCall_zip_2 _ _) (λobj=>F.args_object_init_3 obj _ _) F.entry_zip_new (xQ b0 a0 b1 a1 xs0 xs1) {q0,q1,?_}
 show _/\_;rw[z];exact{{_,y.1,rfl},h _ y x}
def AZ (q0:b9 b0 s.heap a0 xs0)(q1:b9 b1 s.heap a1 xs1)(q2:b9 b2 s.heap a2 xs2)(h:∀h',tB s.heap.objs.size 2 [(b0,a0),(b1,a1),(b2,a2)] 0 h'->(∀c o,s.heap.get? c=some o->h'.get? c=some o)->Q (.ref (s.heap.objs.size+3+2)) {s with heap:=h'}) :
 wpAny (model prog w) A (call (.type "zip") [.ref a0,.ref a1,.ref a2]) Q E s:=by
 obtain⟨z,y,x⟩:=vM s.heap (l:=[(b0,a0),(b1,a1),(b2,a2)]) (m:=2) rfl;refine callType_new F.called_zip `d (qp _ _ _) (sR _ _ _) (λobj=>m8 obj _ _ _) F.entry_zip_new (xP b0 a0 b1 a1 b2 a2 xs0 xs1 xs2) {q0,q1,q2,?_}
 show _/\_;rw[z];exact{{_,y.1,rfl},h _ y x}
end
noncomputable def pw (d0 d1:D):Walk:=λM=>(cm M d0).bind λy0=>(cm M d1).map λy1=>jA y0 y1
noncomputable def nJ (g0 g1:Env->Mem->Res D):Env->Mem->Res Walk:=λZ M=>(g0 Z M).bind λd0 M=>(g1 Z M).bind λd1 M=>if dO d0&&dO d1 then .ok (pw d0 d1) M else .bad
def tJ:∀(y0 y1:List D) (i:Nat) (d:D),(jA y0 y1)[i]?=some d↔∃e0 e1,y0[i]?=some e0/\y1[i]?=some e1/\d=.tup [e0,e1]
 |c0::t0,c1::t1,0,d=>by simp[jA,eq_comm]
 | c0 :: t0, c1 :: t1, i + 1, d => by
   have:=tJ t0 t1 i d;simpa[jA] using this
 |[],_,i,d=>by simp[jA]
 |_::_,[],i,d=>by simp[jA]
def tH:∀(y0 y1:List D) (i:Nat),(jA y0 y1).length<=i->y0.length<=i\/y1.length<=i
 |c0::t0,c1::t1,0,h=>by simp[jA] at h
 | c0 :: t0, c1 :: t1, i + 1, h => by
   have:=tH t0 t1 i (by simpa[jA] using h)
   simpa using this
 |[],_,i,h=>`s
 |_::_,[],i,h=>`s
noncomputable def pj (d0 d1 d2:D):Walk:=λM=>(cm M d0).bind λy0=>(cm M d1).bind λy1=>(cm M d2).map λy2=>gp y0 y1 y2
noncomputable def qb (g0 g1 g2:Env->Mem->Res D):Env->Mem->Res Walk:=λZ M=>(g0 Z M).bind λd0 M=>(g1 Z M).bind λd1 M=>(g2 Z M).bind λd2 M=>if dO d0&&dO d1&&dO d2 then .ok (pj d0 d1 d2) M else .bad
def rD:∀(y0 y1 y2:List D) (i:Nat) (d:D),(gp y0 y1 y2)[i]?=some d↔∃e0 e1 e2,y0[i]?=some e0/\y1[i]?=some e1/\y2[i]?=some e2/\d=.tup [e0,e1,e2]
 |c0::t0,c1::t1,c2::t2,0,d=>by simp[gp,eq_comm]
 | c0 :: t0, c1 :: t1, c2 :: t2, i + 1, d => by
   have:=rD t0 t1 t2 i d;simpa[gp] using this
 |[],_,_,i,d=>by simp[gp]
 |_::_,[],_,i,d=>by simp[gp]
 |_::_,_::_,[],i,d=>by simp[gp]
def rC:∀(y0 y1 y2:List D) (i:Nat),(gp y0 y1 y2).length<=i->y0.length<=i\/y1.length<=i\/y2.length<=i
 |c0::t0,c1::t1,c2::t2,0,h=>by simp[gp] at h
 | c0 :: t0, c1 :: t1, c2 :: t2, i + 1, h => by
   have:=rC t0 t1 t2 i (by simpa[gp] using h)
   simpa using this
 |[],_,_,i,h=>`s
 |_::_,[],_,i,h=>`s
 |_::_,_::_,[],i,h=>`s
def DV {fa:Fa}{K:OA}{μ:Mu}{H:Hp}:∀{es:List D}{ws:List V},es.length=ws.length->(∀(j:Nat) e w,es[j]?=some e->ws[j]?=some w->Rep fa K μ H e w)->aR fa K μ H es ws
 |[],[],_,_=>rfl
 |e::es,w::ws,hl,h=>{w,ws,rfl,h 0 e w rfl rfl,DV (by simpa using hl) λj e w=>h (j+1) e w}
def tK {fa:Fa}{X:Cx}{μ0:Mu}{H0:Hp}{l:kn}{w:Walk} (hw:∀μ H M ds,ExtW μ0 H0 μ H->RelM fa X.K μ H M->w M=some ds->∃ys:List (List D),ys.length=l.length/\(∀(j:Nat) y b a,ys[j]?=some y->l[j]?=some (b,a)->∃vs,kW X.K H b a vs/\aR fa X.K μ H y vs)/\
 (∀(i:Nat) d,ds[i]?=some d->∃es,d=.tup es/\es.map some=ys.map (·[i]?))/\∀i,ds.length<=i->∃y∈ys,y.length<=i):dW fa X.K μ0 H0 w (EM X.K l):=λμ H M ds x hM e=>by
 obtain⟨ys,hl,hv,hd,he⟩:=hw μ H M ds x hM e;have at_:∀(j:Nat) b a,l[j]?=some (b,a)->∃y vs,ys[j]?=some y/\kW X.K H b a vs/\aR fa X.K μ H y vs:=λj b a e=>by
  have hj:=(Oy.mp e).1;have ey:=OW (l:=ys) (i:=j) `a
  obtain⟨vs,q,r⟩:=hv j _ b a ey e;exact{_,vs,ey,q,r}
 refine{λi d hi=>?_,λi hi=>{λj b a e=>?_,?_}}
 ·obtain⟨es,rfl,ee⟩:=hd i d hi;have ej:∀{j:Nat}{y:List D},ys[j]?=some y->es[j]?.map some=some y[i]?:=λ{j y} ey=>by
   have:=congrArg (·[j]?) ee;simpa[ey] using this
  have le:es.length=l.length:=by have:=congrArg List.length ee;simpa[hl] using this
  have it:∀(j:Nat) b a,l[j]?=some (b,a)->∃vs e v,es[j]?=some e/\kW X.K H b a vs/\vs[i]?=some v/\Rep fa X.K μ H e v:=λj b a e=>by
   obtain⟨y,vs,ey,q,r⟩:=at_ j b a e;have z:=ej ey;cases h:es[j]? with
   |none=>rw[h] at z;cases z
   | some e =>
     rw[h] at z;obtain⟨v,hv,rv⟩:=r.get (OG z).symm;exact⟨vs,e,v,rfl,q,hv,rv⟩
  refine{λj b a e=>?_,λy H' ⟨p,zs,hp,ey,eH,lz,t⟩=>?_}
  ·obtain⟨vs,_,v,_,q,hv,_⟩:=it j b a e;exact⟨vs,v,q,hv⟩
  subst eH ey;refine{Ext.alloc hM hp,hM.alloc hp,p,zs,rfl,.inl (.inl bW),DV (le.trans lz.symm) λj e w ee ew=>?_};have el:=OW (l:=l) (i:=j) (by have:=(Oy.mp ee).1;omega)
  obtain⟨vs,e',v,h1,q,hv,rv⟩:=it j _ _ el;have z:=t j _ _ el vs q;rw[ew,hv] at z;rw[ee] at h1;cases z;cases h1;exact rv.ext (Ext.alloc hM hp)
 ·obtain⟨_,vs,_,q,_⟩:=at_ j b a e;exact⟨vs,q⟩
 ·obtain⟨y,hy,ly⟩:=he i hi;obtain⟨j,ej⟩:=List.getElem?_of_mem hy;have el:=OW (l:=l) (i:=j) (by have:=(Oy.mp ej).1;omega)
  obtain⟨vs,q,r⟩:=hv j y _ _ ej el;exact{j,_,_,vs,el,q,by rw[r.length];exact ly}
section
variable{fa:Fa}{X:Cx}{μ0:Mu}{H0:Hp}{d0 d1 d2:D}{a0 a1 a2:Nat}(r0:Rep fa X.K μ0 H0 d0 (.ref a0))(r1:Rep fa X.K μ0 H0 d1 (.ref a1))(r2:Rep fa X.K μ0 H0 d2 (.ref a2))
include r0 r1
theorem yO:dW fa X.K μ0 H0 (pw d0 d1) (EM X.K [(fc d0,a0),(fc d1,a1)]):=tK λμ H M ds x hM e=>by
 obtain⟨y0,s0,e⟩:=PB.mp e;obtain⟨y1,s1,rfl⟩:=OU.mp e;refine{[y0,y1],rfl,λj y b a ey el=>?_,λi d hd=>?_,λi hi=>?_}
 ·match j,ey,el with
  |0,ey,el=>cases ey;cases el;exact iQ hM (Rep.extW x r0) s0
  |1,ey,el=>cases ey;cases el;exact iQ hM (Rep.extW x r1) s1
 ·obtain⟨e0,e1,h0,h1,rfl⟩:=(tJ y0 y1 i d).mp hd;exact{_,rfl,by simp[h0,h1]}
 ·rcases tH y0 y1 i hi with z|z<;>exact{_,`s,z}
include r2
theorem yN:dW fa X.K μ0 H0 (pj d0 d1 d2) (EM X.K [(fc d0,a0),(fc d1,a1),(fc d2,a2)]):=tK λμ H M ds x hM e=>by
 obtain⟨y0,s0,e⟩:=PB.mp e;obtain⟨y1,s1,e⟩:=PB.mp e;obtain⟨y2,s2,rfl⟩:=OU.mp e;refine{[y0,y1,y2],rfl,λj y b a ey el=>?_,λi d hd=>?_,λi hi=>?_}
 ·match j,ey,el with
  |0,ey,el=>cases ey;cases el;exact iQ hM (Rep.extW x r0) s0
  |1,ey,el=>cases ey;cases el;exact iQ hM (Rep.extW x r1) s1
  |2,ey,el=>cases ey;cases el;exact iQ hM (Rep.extW x r2) s2
 ·obtain⟨e0,e1,e2,h0,h1,h2,rfl⟩:=(rD y0 y1 y2 i d).mp hd;exact{_,rfl,by simp[h0,h1,h2]}
 ·rcases rC y0 y1 y2 i hi with z|z|z<;>exact{_,`s,z}
end
def GK {fa:Fa}{X:Cx}{elts:List Expr}{kk:Nat}{tp p pos:Pos}{e0 e1:Expr}{g0 g1:Env->Mem->Res D}(h0:DE fa X e0 g0)(h1:DE fa X e1 g1)(hg:Gl X "zip")(hm:X.mg "zip"=none)
 (hs0:starEach [e0,e1] X.env=[(false,eval e0 X.env),(false,eval e1 X.env)]) (hs1:starEach [e1] X.env=[(false,eval e1 X.env)]):DI fa X (.Tuple elts kk tp) (.Call (.Name "zip" p) [e0,e1] [] pos) (nJ g0 g1):=by
 intro pins s σ H R I ⟨μ,Z,M,hE,hM,h⟩;obtain⟨d0,M0,c0,t0⟩:=aV h;obtain⟨d1,M1,c1,t1⟩:=aV t0;split at t1
 ·next hsq=>
  simp only[OB] at hsq;obtain⟨hq0,hq1⟩:=hsq;refine Call_ (iw I hg hm boot_zip (PM (a9 (bX h0 (bX h1 eB hs1) (by rw[hs0,hs1]) pos pins s σ H (λvs H1=>∃v0 v1 μ1,vs=[v0,v1]/\Ext μ H μ1 H1/\RelM fa X.K μ1 H1 M1/\Rep fa X.K μ1 H1 d0 v0/\Rep fa X.K μ1 H1 d1 v1) I ?_) λus s1 ⟨vs,H1,I1,r1,v0,v1,μ1,ev,x1,m1,rv0,rv1⟩=>?_) (by rw[hs0,hs1]) (by rw[hs1];rfl)))
  ·refine{μ,Z,M,hE,hM,?_};rw[c0];intro v0 H1 μ1 x1 m1 r0;refine{μ1,Z,M0,(hE.ext x1),m1,?_};rw[c1];intro v1 H2 μ2 x2 m2 r1;exact{v0,v1,μ2,rfl,(x1.trans x2),m2,(r0.ext x2),r1}
  subst ev;obtain⟨a0,its0,rfl,z0⟩:=j4 I1 m1 rv0 hq0;obtain⟨a1,its1,rfl,z1⟩:=j4 I1 m1 rv1 hq1;cases r1 with
  | cons y0 r1 =>
    cases r1 with
    | cons y1 r1 =>
      cases r1;obtain rfl:=y0;obtain rfl:=y1;refine A0 z0 z1 λh1 za hk=>?_;have I2:Inv X pins σ H1 {s1 with heap:=h1}:=I1.kept (t':=s1.toks) hk
      refine wpAny_pyIter_zip (s:={s1 with heap:=h1}) za.1 ?_
      refine{s1.heap.objs.size+2+2,Dn s1.heap.objs.size 1,_,_,H1,rfl,I2,tL s1.heap.objs.size 1 [(fc d0,a0),(fc d1,a1)] rfl `d (λj b a e=>match j,e with
       |0,e=>by cases e;exact z0.lt
       |1,e=>by cases e;exact z1.lt),za,λb hb=>?_,t1 _ H1 μ1 x1 m1 (yO rv0 rv1)}
      have hb:=(d9.mp hb).1;exact I1.fpOk hb (I1.hok.fresh hb)
 ·exact t1.elim
def GJ {fa:Fa}{X:Cx}{elts:List Expr}{kk:Nat}{tp p pos:Pos}{e0 e1 e2:Expr}{g0 g1 g2:Env->Mem->Res D}(h0:DE fa X e0 g0)(h1:DE fa X e1 g1)(h2:DE fa X e2 g2)(hg:Gl X "zip")(hm:X.mg "zip"=none)
 (hs0:starEach [e0,e1,e2] X.env=[(false,eval e0 X.env),(false,eval e1 X.env),(false,eval e2 X.env)]) (hs1:starEach [e1,e2] X.env=[(false,eval e1 X.env),(false,eval e2 X.env)]) (hs2:starEach [e2] X.env=[(false,eval e2 X.env)]):DI fa X (.Tuple elts kk tp) (.Call (.Name "zip" p) [e0,e1,e2] [] pos) (qb g0 g1 g2):=by
 intro pins s σ H R I ⟨μ,Z,M,hE,hM,h⟩;obtain⟨d0,M0,c0,t0⟩:=aV h;obtain⟨d1,M1,c1,t1⟩:=aV t0;obtain⟨d2,M2,c2,t2⟩:=aV t1;split at t2
 ·next hsq=>
  simp only[OB,and_assoc] at hsq;obtain⟨hq0,hq1,hq2⟩:=hsq;refine Call_ (iw I hg hm boot_zip (PM (a9 (bX h0 (bX h1 (bX h2 eB hs2) (by rw[hs1,hs2])) (by rw[hs0,hs1]) pos pins s σ H (λvs H1=>∃v0 v1 v2 μ1,vs=[v0,v1,v2]/\Ext μ H μ1 H1/\RelM fa X.K μ1 H1 M2/\Rep fa X.K μ1 H1 d0 v0/\Rep fa X.K μ1 H1 d1 v1/\Rep fa X.K μ1 H1 d2 v2) I ?_) λus s1 ⟨vs,H1,I1,r1,v0,v1,v2,μ1,ev,x1,m1,rv0,rv1,rv2⟩=>?_) (by rw[hs0,hs1]) (by rw[hs1];rfl)))
  ·refine{μ,Z,M,hE,hM,?_};rw[c0];intro v0 H1 μ1 x1 m1 r0;refine{μ1,Z,M0,(hE.ext x1),m1,?_};rw[c1];intro v1 H2 μ2 x2 m2 r1;refine{μ2,Z,M1,((hE.ext x1).ext x2),m2,?_};rw[c2];intro v2 H3 μ3 x3 m3 r2;exact{v0,v1,v2,μ3,rfl,((x1.trans x2).trans x3),m3,((r0.ext x2).ext x3),(r1.ext x3),r2}
  subst ev;obtain⟨a0,its0,rfl,z0⟩:=j4 I1 m1 rv0 hq0;obtain⟨a1,its1,rfl,z1⟩:=j4 I1 m1 rv1 hq1;obtain⟨a2,its2,rfl,z2⟩:=j4 I1 m1 rv2 hq2;cases r1 with
  | cons y0 r1 =>
    cases r1 with
    | cons y1 r1 =>
      cases r1 with
      | cons y2 r1 =>
        cases r1;obtain rfl:=y0;obtain rfl:=y1;obtain rfl:=y2;refine AZ z0 z1 z2 λh1 za hk=>?_;have I2:Inv X pins σ H1 {s1 with heap:=h1}:=I1.kept (t':=s1.toks) hk
        refine wpAny_pyIter_zip (s:={s1 with heap:=h1}) za.1 ?_
        refine{s1.heap.objs.size+3+2,Dn s1.heap.objs.size 2,_,_,H1,rfl,I2,tL s1.heap.objs.size 2 [(fc d0,a0),(fc d1,a1),(fc d2,a2)] rfl `d (λj b a e=>match j,e with
         |0,e=>by cases e;exact z0.lt
         |1,e=>by cases e;exact z1.lt
         |2,e=>by cases e;exact z2.lt),za,λb hb=>?_,t2 _ H1 μ1 x1 m1 (yN rv0 rv1 rv2)}
        have hb:=(d9.mp hb).1;exact I1.fpOk hb (I1.hok.fresh hb)
 ·exact t2.elim
abbrev GE:=Env->Mem->Res D
abbrev GT:=Env->Mem->Res Bool
abbrev GA:=Env->Mem->Res (List D)
abbrev GW:=Env->Mem->Res Walk
abbrev GS:=Env->Mem->Res Fl
abbrev GB:=Env->List D->Mem->Res (List D)
abbrev Call:=Nat->List D->Mem->Res D
def ae (i:Nat):GE:=λZ M=>cK M (Z[i]?.getD none)
def gC (d:D):GE:=λ_ M=>.ok d M
noncomputable def au (m:Bool)(o:mz)(a b:GE):GE:=λZ M=>(a Z M).bind λx M=>(b Z M).bind λy M=>fY m o x y M
noncomputable def aL (o:kr)(a b:GE):GE:=λZ M=>(a Z M).bind λx M=>(b Z M).bind λy M=>(cK M (br o x y M)).bind λb M=>.ok (.bl b) M
noncomputable def mf (o o':kr)(a b c:GE):GE:=λZ M=>(a Z M).bind λx M=>(b Z M).bind λy M=>(cK M (br o x y M)).bind λk M=>
 if k then(c Z M).bind λz M=>(cK M (br o' y z M)).bind λb M=>.ok (.bl b) M else .ok (.bl false) M
noncomputable def fH (a:GE):GE:=λZ M=>(a Z M).bind λx M=>match x with|.int i=>.ok (.int (-i)) M|_=>.bad
noncomputable def dZ (a b:GE):GE:=λZ M=>(a Z M).bind λx M=>match x with|.bl true=>b Z M|.bl false=>.ok (.bl false) M|_=>.bad
noncomputable def MK (a b:GE):GE:=λZ M=>(a Z M).bind λx M=>match x with|.bl true=>.ok (.bl true) M|.bl false=>b Z M|_=>.bad
noncomputable def JM (a:GE):GE:=λZ M=>(a Z M).bind λx M=>match x with|.bl k=>.ok (.bl (!k)) M|_=>.bad
noncomputable def fJ (t:GT)(a b:GE):GE:=λZ M=>(t Z M).bind λk M=>if k then a Z M else b Z M
noncomputable def aE (a b:GE):GE:=λZ M=>(a Z M).bind λx M=>(b Z M).bind λy M=>cK M (bZ x y M)
noncomputable def cq (m hl hh:Bool)(a lo hi:GE):GE:=λZ M=>(a Z M).bind λx M=>(lo Z M).bind λl M=>(hi Z M).bind λh M=>if cH hl l&&cH hh h then fq m x l h M else .bad
def ah:GA:=λ_ M=>.ok [] M
noncomputable def aa (a:GE)(s:GA):GA:=λZ M=>(a Z M).bind λx M=>(s Z M).bind λxs M=>.ok (x::xs) M
def bH (s:GA):GE:=λZ M=>(s Z M).bind lZ
def aO (m:Bool)(s:GA):GE:=λZ M=>(s Z M).bind (bE m)
noncomputable def aq (f:Nat)(c:Call)(s:GA):GE:=λZ M=>(s Z M).bind λds M=>c f ds M
noncomputable def mT (i:Nat)(c:Call)(s:GA):GE:=λZ M=>match Z[i]?.getD none with|some (.fn f)=>(s Z M).bind λds M=>c f ds M|_=>.bad
noncomputable def aX (f:xb)(s:GA):GE:=λZ M=>(s Z M).bind λds M=>eY f ds M
noncomputable def bL (t:Ty)(a:GE):GE:=λZ M=>(a Z M).bind λx M=>(cK M (bI t x)).bind λb M=>.ok (.bl b) M
noncomputable def ax (a:GE):GT:=λZ M=>(a Z M).bind λx M=>cK M (k9 M x)
noncomputable def gW (a b:GT):GT:=λZ M=>(a Z M).bind λk M=>if k then b Z M else .ok false M
noncomputable def eA (a b:GT):GT:=λZ M=>(a Z M).bind λk M=>if k then .ok true M else b Z M
def bC (a:GT):GT:=λZ M=>(a Z M).bind λk M=>.ok (!k) M
noncomputable def aI (t:dB)(a:GE):GS:=λZ M=>(a Z M).bind λx M=>(cK M (cX t x Z)).bind λρ1 M=>.ok (.next ρ1) M
noncomputable def fF (a b d:GE):GS:=λZ M=>(d Z M).bind λz M=>(a Z M).bind λx M=>(b Z M).bind λy M=>match x,y with
 | .cell k, .int n => match M[k]? with
   | some ds => match bw ds.length n with
     |some j=>.ok (.next Z) (M.set k (ds.set j z))
     |none=>.bad
   |none=>.bad
 |_,_=>.bad
noncomputable def jB (a d:GE):GS:=λZ M=>(a Z M).bind λx M=>(d Z M).bind λz M=>match x with
 | .cell k => match M[k]? with
   |some ds=>if ds.length<sz then .ok (.next Z) (M.set k (ds++[z])) else .bad
   |none=>.bad
 |_=>.bad
noncomputable def sEx (a:GE):GS:=λZ M=>(a Z M).bind λ_ M=>.ok (.next Z) M
noncomputable def aK (a:GE):GS:=λZ M=>(a Z M).bind λx M=>.ok (.ret x) M
def DQ:GS:=λ_ M=>.ok (.ret .non) M
def DR:GS:=λZ M=>.ok (.next Z) M
def Nk:GS:=λ_ _=>.bad
noncomputable def aQ (c:GT)(a b:GS):GS:=λZ M=>(c Z M).bind λk M=>if k then a Z M else b Z M
noncomputable def dF (t:dB)(w:GW)(b:GS):GS:=λZ M=>(w Z M).bind λw M=>dX (ic t b) w (.next Z) M
def aj:GS:=λZ M=>.ok (.next Z) M
noncomputable def ag (a b:GS):GS:=λZ M=>(a Z M).bind λfl M=>match fl with
 |.next Z=>b Z M
 |fl=>.ok fl M
def notStar:Expr->Bool
 |.Starred _ _=>false
 |_=>true
def bK {a:Expr}{es:List Expr}{env:Po}(h:notStar a=true):starEach (a::es) env=(false,eval a env)::starEach es env:=by
 cases a<;>first|rfl|cases h
def dR {pos:Pos}{env:Po}:∀{es:List Expr},es.all notStar=true->(backTo pos (starEach es env)).any (·.1)=false
 |[],_=>rfl
 | a :: es, h => by
   simp only[PF,OB] at h;have ih:=dR (pos:=pos) (env:=env) h.2;rw[bK h.1];simpa[backTo] using ih
section
variable{fa:Fa}{X:Cx}{a b d:Expr}{ga gb gd:GE}{ta tb:GT}{pos p:Pos}{es:List Expr}{gs:GA}{n:Nat}
def Ia {x:Str}{i:Int}{t:Tok}(hg:Gl X x)(hm:X.mg x=some (.int i t))(hd:(x==("__debug__":Str))=false):DE fa X (.Name x pos) (gC (.int i)):=jV (v:=.int i) (iS hg hm ⟨t,rfl⟩ hd) λ_ _=>rfl
end
structure Df where
 params:Nat
 slots:Nat
 body:Call->GS
noncomputable def NY:Fl->Mem->Res D
 |.ret d,M=>.ok d M
 |.next _,M=>.ok .non M
 |.exc x _,M=>.err x M
def NX:Res Fl->Res D
 |.ok fl M=>NY fl M
 |_=>.bad
noncomputable def gX (c:Call)(d:Df)(ds:List D)(M:Mem):Res D:=if ds.length=d.params then NX (d.body c (ds.map some++List.replicate (d.slots-ds.length) none) M) else .bad
noncomputable def ak (P:Nat->Option Df):Nat->Call
 |0,_,_,_=>.bad
 | n + 1, f, ds, M => match P f with
   |none=>.bad
   |some d=>gX (ak P n) d ds M
structure yH (fa:Fa) (P:OX) (w:O6) (K:OA) (mg:Str->Option Oz) (base:Heap) (f:Nat) (d:Df):Prop where
 ex:∃(ad:Addr) (fd:QH) (ps N:List Str) (st:Stmt) (x qual:Str),fa f=some ad/\sN K x qual st ad fd/\Binds K fd ps []/\ia N ps (aW st)/\d.params=ps.length/\d.slots=N.length/\
  ∀(call:Call) (n:Nat) (cdv:Oz) (A:Pu) (outer:List Po) (s:OD) (H:Hp) (E:XK),(∀f,jz fa P w K mg base n f (call f))->cv (n+4) (A.deeper (envOfC qual (aW st) s.heap.objs.size ad cdv))->
   kZ fa (fL (gJ P w) P w K mg base N qual (aW st) ad cdv A outer s H E) (dA st) (d.body call)
def zm {fa:Fa}{K:OA}{μ:Mu}{H:Hp}{N:List Str}{ds:List D}{vs:List V}(h:aR fa K μ H ds vs):bt fa K μ H (L2.start N vs) (ds.map some++List.replicate (N.length-ds.length) none):=by
 have hl:=h.length;refine{by unfold L2.start;simp[hl],λi d e=>?_}
 by_cases hi:i<ds.length
 ·rw[Pd (by simpa using hi),Ph] at e
  cases e1:ds[i]? with
  |none=>rw[e1] at e;cases e
  | some d' =>
    rw[e1] at e;cases e;obtain⟨v,hv,rv⟩:=h.get e1;refine{v,?_,rv};unfold L2.start;rw[Pd `o,Ph,hv]
    rfl
 ·rw[PN `o,Qr] at e
  split at e<;>cases e
def qR {P:OX}{w:O6}{K:OA}{mg:Str->Option Oz}{base:Heap}{x qual:Str}{st:Stmt}{f:Addr}{fd:QH}{N ps:List Str}{k:Nat}{sp:Sp}(F:sN K x qual st f fd)(S:ia N ps (aW st))(len:∀vs H Q E,sp vs H Q E->vs.length=ps.length)
 (hbody:∀(cdv:Oz) (A:Pu) (outer:List Po) (s:OD) (H:Hp) (vs:List V) (Q:VK) (E:XK),cv k (A.deeper (envOfC qual (aW st) s.heap.objs.size f cdv))->sp vs H Q E->
  ∃t,nh (fL (gJ P w) P w K mg base N qual (aW st) f cdv A outer s H E) (dA st) t/\t {nx:=λ_ H'=>Q .non H',rt:=Q} (start N vs) H):lp P w K mg base (gJ P w) (k+1) f fd ps sp:=by
 obtain⟨oc,od,kV,doc,pm,an,cdv,ct,osl,rfl,lk,hcd⟩:=F.ex;exact Ly lk hcd S len λA outer s H vs Q E hr hsp=>hbody cdv A outer s H vs Q E hr hsp
def sC {fa:Fa}{P:OX}{w:O6}{K:OA}{mg:Str->Option Oz}{base:Heap}{N:List Str}{qual:Str}{scope:Scope}{f:Addr}{cd:Oz}{A:Pu}{outer:List Po}{s:OD}{H:Hp}{E:XK}{Q:VK}{d:Df}{c:Call}{ds:List D}{vs:List V}{μ:Mu}{M:Mem}
 (hs:d.slots=N.length) (hM:RelM fa K μ H M) (hr:aR fa K μ H ds vs) (hq:jr (gX c d ds M) (bg fa K μ H Q) (yB fa K μ H E)):tF fa (fL (gJ P w) P w K mg base N qual scope f cd A outer s H E) (d.body c) {nx:=λ_ H'=>Q .non H',rt:=Q} (start N vs) H:=by
 unfold gX at hq;split at hq
 ·refine{μ,_,M,zm hr,hM,?_};rw[<- hs];cases e1:d.body c (ds.map some++List.replicate (d.slots-ds.length) none) M with
  | ok fl M1 =>
    rw[e1] at hq;cases fl with
    | next ρ' =>
      have q1:bg fa K μ H Q .non M1:=hq;exact λσ' H' μ' x' e' m'=>q1 .non H' μ' x' m' rfl
    |ret d=>exact hq
    | exc x ρ' =>
      have q1:yB fa K μ H E x M1:=hq;exact λpins σ' H' μ' s' a C dx c p I y _ m ex hc hn fl=>Ct I fl (q1 C dx c p H' μ' y m ex hc hn)
  |err=>rw[e1] at hq;exact hq.elim
  |bad=>rw[e1] at hq;exact hq.elim
 ·exact hq.elim
def vk {fa:Fa}{P:OX}{w:O6}{K:OA}{mg:Str->Option Oz}{base:Heap}{Pg:Nat->Option Df}(h:∀f d,Pg f=some d->yH fa P w K mg base f d):∀(n f:Nat),jz fa P w K mg base n f (ak Pg n f)
 |0,f=>.inl λ_ _=>rfl
 | n + 1, f => by
   have ih:=vk h n;cases e:Pg f with
   |none=>exact .inl λds M=>by show(match Pg f with|none=>Res.bad|some d=>gX (ak Pg n) d ds M)=Res.bad;rw[e]
   | some d =>
     have eq:∀ds M,ak Pg (n+1) f ds M=gX (ak Pg n) d ds M:=λds M=>by show(match Pg f with|none=>Res.bad|some d=>gX (ak Pg n) d ds M)=_;rw[e]
     obtain⟨ad,fd,ps,N,st,x,qual,h1,F,hb,S,hp,hs,hbody⟩:=(h f d e).ex;refine .inr {ad,fd,ps,h1,F.kp,hb,λds M hl=>?_,?_}
     ·rw[eq];unfold gX;rw[if_neg (by rw[hp];exact hl)]
     ·refine qR (k:=n+4) F S (λvs H Q E hsp=>hsp.1) λcdv A outer s H vs Q E hr hsp=>{_,hbody (ak Pg n) n cdv A outer s H E ih hr,?_};obtain⟨hl,μ,M,ds,hM,hr,hq⟩:=hsp;rw[eq] at hq;exact sC hs hM hr hq
noncomputable def ph (P:P6)(e:QA)(kv:Str×Addr):Prop:=∃t,e={PyData.keyHash P kv.1,.str kv.1 t,.ref kv.2}
structure gA (K:OA) (P:P6) (a:Addr) (kvs:List (Str×Addr)):Prop where
 ex:∃(es:Array QA) (n:Nat),K.lookup a=some {cls:=.type "dict",data:=.dict es n}/\QG (ph P) es.toList kvs
 nd:(kvs.map (·.1)).Nodup
 ns:(a==sysModules)=false
noncomputable def wH (kvs:List (Str×Addr)):List (Key×Oz):=kvs.map λkv=>(Sum.inr kv.1,.ref kv.2)
def vb {P:P6}:∀{es:List QA}{kvs:List (Str×Addr)},QG (ph P) es kvs->∀e∈es,∃x t,e.key=.str x t/\e.hash=PyData.keyHash P x
 |_,_,.nil,e,h=>nomatch h
 | _, _, .cons r t, e, h => by
   rcases OL.mp h with z|z
   ·subst z;obtain⟨t,rfl⟩:=r;exact{_,t,rfl,rfl}
   ·exact vb t e z
def qi {prog:OX}{w:O6}:∀{es:List QA}{kvs:List (Str×Addr)},QG (ph w.params) es kvs->Pairs (lD prog w) es (wH kvs)
 |_,_,.nil=>.nil
 | e :: es, kv :: kvs, .cons r t => by
   obtain⟨u,rfl⟩:=r;exact Pairs.cons (kv:=((Sum.inr kv.1:Key),Value.ref kv.2)) (kJ kv.1 u) rfl (qi t)
def uP {X:Cx}{pins:List (Addr×Obj)}{σ:L2.St}{H:Hp}{s:OD}{a:Addr}{kvs:List (Str×Addr)}(I:Inv X pins σ H s)(h:gA X.K X.w.params a kvs):s.heap.DictOf (lD X.prog X.w) a (wH kvs):=by
 obtain⟨es,n,lk,pr⟩:=h.ex;refine{_,es,n,I.kIn _ _ lk,⟨rfl,rfl,rfl⟩,rfl,λe he=>?_,qi pr,?_}
 ·obtain⟨x,t,e1,e2⟩:=vb pr e (by simpa using he)
  exact{Sum.inr x,by rw[e1];exact kJ x t,e2}
 ·have e:(wH kvs).map (·.1)=(kvs.map (·.1)).map Sum.inr:=by unfold wH;simp
  rw[e];exact List.Pairwise.map _ (λa b (n:a≠b) z=>n (Sum.inr.inj z)) h.nd
def Ao (kvs:List (Str×Addr))(k:Str):valueAt (wH kvs) (Sum.inr k:Key)=(kvs.lookup k).map Value.ref:=by
 induction kvs with
 |nil=>rfl
 | cons kv r ih =>
   unfold valueAt wH at ih ⊢;rw[Qm,List.find?_cons,Pn];by_cases e:kv.1=k
   ·subst e;simp
   ·have e2:decide ((Sum.inr kv.1:Key)=Sum.inr k)=false:=decide_eq_false λz=>e (Sum.inr.inj z);have e3:(k==kv.1)=false:=PJ.mpr (PZ e);rw[e2,e3];exact ih
noncomputable def fm (fa:Fa)(kvs:List (Str×Addr))(fs:List (Str×Nat)):Prop:=QG (λ(p:Str×Addr) (q:Str×Nat)=>p.1=q.1/\fa q.2=some p.2) kvs fs
def fm.look {fa:Fa}{k:Str}:∀{kvs:List (Str×Addr)}{fs:List (Str×Nat)},fm fa kvs fs->(fs.lookup k=none/\kvs.lookup k=none)\/∃f ad,fs.lookup k=some f/\kvs.lookup k=some ad/\fa f=some ad
 |_,_,.nil=>.inl ⟨rfl,rfl⟩
 | (x, a) :: r, (y, f) :: t, .cons ⟨e1, e2⟩ q => by
   have e1:x=y:=e1;subst e1;rw[Pn,Pn];cases e:k==x with
   |true=>exact .inr ⟨f,a,rfl,rfl,e2⟩
   |false=>exact fm.look q
noncomputable def md (fs:List (Str×Nat))(i:GE):GE:=λZ M=>(i Z M).bind λd M=>match d with
 |.str k=>cK M ((fs.lookup k).map D.fn)
 |_=>.bad
noncomputable def jK (fs:List (Str×Nat))(i:GE):GE:=λZ M=>(i Z M).bind λd M=>match d with
 |.str k=>.ok (.bl (!(fs.lookup k).isSome)) M
 |_=>.bad
section
variable{fa:Fa}{X:Cx}{a b:Expr}{ga gb:GE}{pos p:Pos}{ad:Addr}{kvs:List (Str×Addr)}{fs:List (Str×Nat)}{x:Str}
def CF (hd:gA X.K X.w.params ad kvs):lL X (λx y H Q=>∃k v,x=.ref ad/\y=.str k/\kvs.lookup k=some v/\Q (.ref v) H):=by
 intro value slice pins s σ H x y v u Q I rx ry h hs;obtain⟨k,c,rfl,rfl,hk,q⟩:=h;cases rx;obtain⟨t,rfl⟩:=ry;have dd:=uP I hd;have hT:s.TypeIs (.ref ad) "dict":=let{o,_,_,ho,{hc,_},_}:=dd;⟨o,ho,hc⟩
 refine tail_any hT PySem.F.slot_dict_getitem.lookup (wpAny_getItem_of (k:=(Sum.inr k:Key)) (kJ k t) dd.mapOf (v:=.ref c) ?_ ?_) hs
 ·rw[Ao,hk];rfl
 ·exact{.ref c,H,I.tok _,rfl,q}
def uz (hd:gA X.K X.w.params ad kvs):bV X (compareOp .NotIn) (λx y H Q=>∃k,x=.str k/\y=.ref ad/\Q (.bl (!(kvs.lookup k).isSome)) H):=by
 intro pins s σ H x y v u Q I rx ry h;obtain⟨k,rfl,rfl,q⟩:=h;obtain⟨t,rfl⟩:=rx;cases ry;have dd:=uP I hd;refine wpAny_notIn_of (k:=(Sum.inr k:Key)) (kJ k t) hd.ns dd.mapOf ?_;rw[Ao,Option.isSome_map];exact{.bl _,H,I.tok _,rfl,q}
def Ic (hd:gA X.K X.w.params ad kvs)(ho:fm fa kvs fs)(hg:Gl X x)(hm:X.mg x=some (.ref ad))(hdb:(x==("__debug__":Str))=false)(hb:DE fa X b gb)(hs:lK b):DE fa X (.Subscript (.Name x p) b pos) (md fs gb):=
 bG (D3 (CF hd) (iS (v:=.ref ad) hg hm rfl hdb) hb hs) λσ H Q ⟨μ,Z,M,hE,hM,h⟩=>t1 hE hM h λd M1 v H1 μ1 x1 hE1 hM1 r1 h1=>by
  cases d with
  | str k =>
    obtain⟨d,e,q⟩:=nB h1;rcases ho.look (k:=k) with⟨e1,_⟩|⟨f,c,e1,e2,e3⟩
    ·rw[e1] at e;cases e
    ·rw[e1] at e;cases e;exact{k,c,rfl,r1,e2,q (.ref c) H1 μ1 x1 hM1 ⟨c,rfl,e3⟩}
  |_=>exact h1.elim
def Cf {d:D}{M1:Mem}{P:D->Mem->Prop}(h:ai (match d with|.str k=>Res.ok (.bl (!(fs.lookup k).isSome)) M1|_=>.bad) P):∃k,d=.str k/\P (.bl (!(fs.lookup k).isSome)) M1:=by
 cases d with
 |str k=>exact⟨k,rfl,h⟩
 |_=>exact h.elim
def CZ (ho:fm fa kvs fs)(k:Str):(kvs.lookup k).isSome=(fs.lookup k).isSome:=by
 rcases ho.look (k:=k) with⟨e1,e2⟩|⟨f,c,e1,e2,_⟩<;>rw[e1,e2]<;>rfl
def AD (ho:fm fa kvs fs)(σ:L2.St)(H:Hp)(Q:VK)(h:tE fa X.K (jK fs ga) σ H Q):zi (λx y H Q=>∃k,x=.str k/\y=.ref ad/\Q (.bl (!(kvs.lookup k).isSome)) H) (tE fa X.K ga) (tC (.ref ad)) σ H Q:=by
 obtain⟨μ,Z,M,hE,hM,h⟩:=h;refine t1 hE hM h λd M1 v H1 μ1 x1 hE1 hM1 r1 h1=>?_;obtain⟨k,rfl,q⟩:=Cf h1;refine{k,r1,rfl,?_};rw[CZ ho];exact q (.bl _) H1 μ1 x1 hM1 rfl
def Ib (hd:gA X.K X.w.params ad kvs)(ho:fm fa kvs fs)(hg:Gl X x)(hm:X.mg x=some (.ref ad))(hdb:(x==("__debug__":Str))=false)(ha:DE fa X a ga)(hmk:behindInMarks .NotIn (.Name x p)=false):DE fa X (.Compare a [.NotIn] [.Name x p] pos) (jK fs ga):=
 bG (wt (uz hd) ha (iS (v:=.ref ad) hg hm rfl hdb) hmk) λσ H Q h=>AD ho σ H Q h
def Ip (hd:gA X.K X.w.params ad kvs)(ho:fm fa kvs fs)(hg:Gl X x)(hm:X.mg x=some (.ref ad))(hdb:(x==("__debug__":Str))=false)(ha:DE fa X a ga)(hmk:behindInMarks .NotIn (.Name x p)=false):DT fa X (.Compare a [.NotIn] [.Name x p] pos) (ax (jK fs ga)):=
 lA (qD (uz hd) ha (iS (v:=.ref ad) hg hm rfl hdb) hmk) λσ H Q h=>by
  refine AD ho σ H _ ?_;obtain⟨μ,Z,M,hE,hM,h⟩:=h;obtain⟨z,M3,e,q⟩:=aV h;refine{μ,Z,M,hE,hM,?_};rw[e];have hz:∃k,z=.bl k:=by
   obtain⟨d,M1,e1,e2⟩:=fN e;cases d<;>first|(cases e2;exact{_,rfl})|cases e2
  obtain⟨k,rfl⟩:=hz;intro v H' μ' x' m' r';obtain rfl:v=.bl k:=r';exact{k,rfl,q H' μ' x' m'}
noncomputable def mS (m:Bool)(a:GE):GE:=λZ M=>(a Z M).bind λx M=>match x with
 |.int n=>if -(2^62)<=n/\n<2^20 then bE m ((List.range n.toNat).map λ(k:Nat)=>D.int (k:Int)) M else .bad
 |_=>.bad
def yd:∀(n:Nat) (its:List Oz),its.length=n->(∀(i:Nat) (v:Oz),its[i]?=some v->∃t,v=.int (i:Int) t)->Vals ((List.range n).map λ(k:Nat)=>V.int (k:Int)) its:=by
 intro n its hl h;have key:∀(k:Nat) (its:List Oz),(∀(i:Nat) (v:Oz),its[i]?=some v->∃t,v=.int ((k+i:Nat):Int) t)->Vals ((List.range its.length).map λ(j:Nat)=>V.int ((k+j:Nat):Int)) its:=by
  intro k its;induction its generalizing k with
  |nil=>intro _;exact .nil
  | cons v r ih =>
    intro h;rw[List.length_cons,List.range_succ_eq_map,Qm,List.map_map];refine .cons (h 0 v rfl) ?_;have:=ih (k+1) λi u e=>by
     have:=h (i+1) u (by simpa using e)
     rw[show k+1+i=k+(i+1) by omega];exact this
    refine cast (congrArg (λf=>Vals ((List.range r.length).map f) r) ?_) this
    funext j
    show V.int _=V.int _
    congr 2
    omega
 have:=key 0 its λi v e=>by rw[Qs];exact h i v e
 rw[hl] at this;simpa using this
def FA (m:Bool){p1 p2 pos2:Pos}(hc:X.calm=true)(ha:DE fa X a ga)(hgl:Gl X "list")(hml:X.mg "list"=none)(hg:Gl X "range")(hm:X.mg "range"=none)(hs:starEach [a] X.env=[(false,eval a X.env)])
 (hs2:starEach [.Call (.Name "range" p2) [a] [] pos2] X.env=[(false,eval (.Call (.Name "range" p2) [a] [] pos2) X.env)]) :
 DE fa X (.Call (.Name "list" p1) [.Call (.Name "range" p2) [a] [] pos2] [] pos) (mS m ga):=by
 intro pins s σ H Q I ⟨μ,Z,M,hE,hM,h⟩;obtain⟨x,M1,e,q⟩:=aV h;have key:∀n,x=.int n->ai (if -(2^62)<=n/\n<2^20 then bE m ((List.range n.toNat).map λ(k:Nat)=>D.int (k:Int)) M1 else .bad) (bg fa X.K μ H Q)->
  wpAny (model X.prog X.w) X.A (eval (.Call (.Name "list" p1) [.Call (.Name "range" p2) [a] [] pos2] [] pos) X.env) (EP X pins σ Q) X.xe s:=λn en q'=>by
  subst en;by_cases c:-(2^62)<=n/\n<2^20
  ·rw[if_pos c] at q';refine Call_ (iw I hgl hml (by decide +kernel:bootBuiltins "list"=some (.type "list")) (PM ?_ hs2 rfl))
   rw[hs2];refine Calls.spliced_cons ?_;refine Call_ (iw I hg hm boot_range (PM (a9 (bX ha eB hs pos2 pins s σ H (λvs H1=>∃μ1,vs=[.int n]/\Ext μ H μ1 H1/\RelM fa X.K μ1 H1 M1) I {μ,Z,M,hE,hM,?_}) λus s1 ⟨vs,H1,I1,r1,μ1,ev,x1,m1⟩=>?_) hs rfl))
   ·rw[e];intro v H1 μ1 x1 m1 r1;obtain rfl:v=.int n:=r1;exact⟨μ1,rfl,x1,m1⟩
   subst ev;cases r1 with
   | cons r rr =>
     cases rr;obtain⟨t,rfl⟩:=r;refine call_range_1 ?_;refine Calls.spliced_nil ?_;refine call_list_range (n:=n.toNat) (I.ok.hd hc) (IsRange.new ..) (small_one `a `a `a `a) (by rw[rangeSize_one];split<;>omega) `a λh' tk acc' c' kp eS its=>?_
     obtain⟨hsz,hit⟩:=its;have I2:Inv X pins σ H1 {s1 with heap:=s1.heap.push {cls:=.type "range",data:=.fields #[.int 0 s1.toks,.int n t,.int 1 (s1.toks+1)]},toks:=s1.toks+1+1}:=I1.kept λb o e=>OE _ e
     have hv:Vals ((List.range n.toNat).map λ(k:Nat)=>V.int (k:Int)) acc'.toList:=yd n.toNat acc'.toList (by simpa using hsz) λi v e=>by
      obtain⟨u,z⟩:=hit i v (by simpa using e)
      exact{u,by rw[z];simp}
     have rl:aR fa X.K μ1 H1 ((List.range n.toNat).map λ(k:Nat)=>D.int (k:Int)) ((List.range n.toNat).map λ(k:Nat)=>V.int (k:Int)):=by
      have:=aR.ints (fa:=fa) (K:=X.K) (μ:=μ1) (H:=H1) ((List.range n.toNat).map λ(k:Nat)=>(k:Int));simpa[List.map_map,Function.comp_def] using this
     obtain⟨c1,k1⟩:=gV m1 rl (kD q' x1);refine{.ref _,_,I2.laid (t':=tk) (o:=.lst ((List.range n.toNat).map λ(k:Nat)=>V.int (k:Int))) kp (OF _) {?_,acc'.toList,c',hv,by simpa using eS},rfl,k1 _ (I2.hok.fresh (OF _))}
     rw[rl.length,<- dN];exact c1
  ·rw[if_neg c] at q';exact q'.elim
 cases x with
 |int n=>exact key n rfl q
 |_=>exact q.elim
end
noncomputable def qZ (bn N:List Str)(sc scope:Scope):Bool:=
 scope.names.all (λy=>y.2 != .cell&&(y.2 != .local||scope.names.lookup y.1==some .local)&&(y.2 != .free||sc.names.lookup y.1==some .cell||sc.names.lookup y.1==some .free)) &&
 bn.length==N.length&&(bn.zip N).all λp=>(p.1==p.2&&scope.names.lookup p.2 != some .local)||scope.names.lookup p.1==none
def pN {α β:Type}{R:α->β->Prop}:∀{l:List α}{r:List β},l.length=r.length->(∀p∈l.zip r,R p.1 p.2)->QG R l r
 |[],[],_,_=>.nil
 |a::l,b::r,h,g=>.cons (g (a,b) OT) (pN (by simpa using h) λp hp=>g p (ON _ hp))
 |[],_::_,h,_=>by cases h
 |_::_,[],h,_=>by cases h
def AW {X:Cx}{own bn N:List Str}{sc scope:Scope}(hk:scope.kind=.function)(hs:X.env.scope=sc)(hN:X.N=N)(h:qZ bn N sc scope=true):jy X own bn scope:=by
 unfold qZ at h;rw[OB,OB,OJ,OJ] at h;obtain⟨⟨h1,hl⟩,h2⟩:=h;refine{hk,λy hy=>?_,λy hy e=>?_,λy hy e=>?_,?_}
 ·have:=h1 y hy;simp only[OB] at this;simpa using this.1.1
 ·have:=h1 y hy;simp only[OB] at this;have:=this.1.2;rw[e] at this;simpa using this
 ·have:=h1 y hy;simp only[OB] at this;have:=this.2;rw[e] at this;show X.env.scope.names.lookup y.1=_\/X.env.scope.names.lookup y.1=_;rw[hs];simpa using this
 ·rw[hN];refine pN (by simpa using hl) λp hp=>?_
  have:=h2 p hp;simp only[Qv,OB,beq_iff_eq,bne_iff_ne] at this;exact this
section
variable{fa:Fa}{X:Cx}{elt tg iter c t2 i2:Expr}{scope:Scope}{pos:Pos}{own bn:List Str}{t u:dB}{gw gw2:GW}{ge:GE}{gc:GT}
def ot {n:Nat}{l:List Nat}(h:l.all (· < n)=true):∀i∈l,i<n:=λi hi=>by
 have:=OJ.mp h i hi;simpa using this
def zy {l W:List Nat}(h:W.all (λi=>!l.contains i)=true):∀i∈W,i∉l:=λi hi z=>by
 have:=OJ.mp h i hi;simp[z] at this
variable{i:Nat}{y:Str}{py spos:Pos}
def FE {x:Str}{i:Int}(hg:Gl X x)(hm:∃t,X.mg x=some (.int i t))(hd:(x==("__debug__":Str))=false):DE fa X (.Name x pos) (gC (.int i)):=let{_,h}:=hm;Ia hg h hd
def FH {x:Str}{b:Expr}{gb:GE}{p:Pos}{fs:List (Str×Nat)}(h:∃ad kvs,X.mg x=some (.ref ad)/\gA X.K X.w.params ad kvs/\fm fa kvs fs)(hg:Gl X x)(hdb:(x==("__debug__":Str))=false)(hb:DE fa X b gb)(hs:lK b):DE fa X (.Subscript (.Name x p) b pos) (md fs gb):=
 let{_,_,h1,h2,h3}:=h;Ic h2 h3 hg h1 hdb hb hs
def FG {x:Str}{a:Expr}{ga:GE}{p:Pos}{fs:List (Str×Nat)}(h:∃ad kvs,X.mg x=some (.ref ad)/\gA X.K X.w.params ad kvs/\fm fa kvs fs)(hg:Gl X x)(hdb:(x==("__debug__":Str))=false)(ha:DE fa X a ga)(hmk:behindInMarks .NotIn (.Name x p)=false):DE fa X (.Compare a [.NotIn] [.Name x p] pos) (jK fs ga):=
 let{_,_,h1,h2,h3}:=h;Ib h2 h3 hg h1 hdb ha hmk
def FL {x:Str}{a:Expr}{ga:GE}{p:Pos}{fs:List (Str×Nat)}(h:∃ad kvs,X.mg x=some (.ref ad)/\gA X.K X.w.params ad kvs/\fm fa kvs fs)(hg:Gl X x)(hdb:(x==("__debug__":Str))=false)(ha:DE fa X a ga)(hmk:behindInMarks .NotIn (.Name x p)=false):DT fa X (.Compare a [.NotIn] [.Name x p] pos) (ax (jK fs ga)):=
 let{_,_,h1,h2,h3}:=h;Ip h2 h3 hg h1 hdb ha hmk
def Fx {X:Cx}{n:Nat}(h:cv (n+4) X.A):Rm X:=by have:=h.un;show X.A.units+100<cLine;omega
end
def jL {α β:Type}{f g:α->Option β}:∀{l:List α},(∀x∈l,f x=g x)->l.filterMap f=l.filterMap g
 |[],_=>rfl
 | a :: l, h => by
   rw[QE,QE,h a OT,jL (l:=l) λx hx=>h x (ON _ hx)]
def rT (n:Nat)(xs:List Oz)(h:xs.length=n):(List.range n).filterMap (λ(k:Nat)=>xs[n-1-k]?)=xs.reverse:=by
 have e:∀k∈List.range n,xs[n-1-k]?=some (xs.reverse.getD k .none):=λk hk=>by
  have hk:=Qq.mp hk;rw[PQ,List.getElem?_reverse `a,h,OW `a]
  simp
 have:(List.range n).filterMap (λ(k:Nat)=>xs[n-1-k]?)=(List.range n).map λk=>xs.reverse.getD k .none:=by
  rw[jL (g:=λk=>some (xs.reverse.getD k .none)) e];simp
 rw[this];refine List.ext_getElem? λi=>?_;rw[Ph];by_cases hi:i<n
 ·rw[List.getElem?_range hi];show some (xs.reverse.getD i .none)=_;rw[PQ,OW (show i<xs.reverse.length by simp;omega)]
  simp
 ·rw[PY `o,PY `o]
  rfl
def sP (its:List Oz):slicePick its.toArray none none (some (-1))=its.reverse.toArray:=by
 unfold slicePick sliceBounds sliceRange;simp only[Pm,OH];have e1:¬ ((-1:Int) > 0):=`d
 simp only[e1,if_false];have e2:(if (its.length:Int)-1 > -1 then((its.length:Int)-1 - -1 - -1-1) / (- -1) else 0).toNat=its.length:=by
  split
  ·simp
  ·omega
 rw[e2,List.filterMap_map,<- rT its.length its rfl]
 congr 1
 refine jL λk hk=>?_;have hk:=Qq.mp hk;have e3:((its.length:Int)-1+-1*(k:Int)).toNat=its.length-1-k:=`a
 show its.toArray[((its.length:Int)-1+-1*(k:Int)).toNat]?=_;rw[e3];simp
section
variable{prog:OX}{w:O6}{A:Pu}{E:Oz->OD->Prop}{s:OD}
def jH {t sl:Addr}{items:Array Oz}{k:Tok}{Q:Oz->OD->Prop}(ht:IsTup s.heap t items)(hs:s.heap.IsSliceOf sl .none .none (.int (-1) k))
 (h:Q (.ref s.heap.objs.size) {s with heap:=s.heap.push {cls:=.type "tuple",data:=.seq items.toList.reverse.toArray}})
 (hsz:items.size<=sizeLine):wpAny (model prog w) A (getItem (.ref t) (.ref sl)) Q E s:=by
 have htake:sizeOk (.seq items.toList.reverse.toArray):=by
  show items.toList.reverse.toArray.size<=sizeLine;simpa using hsz
 obtain⟨os,hos,hcs,hds⟩:=id hs;have hTs:s.TypeIs (.ref sl) "slice":=⟨os,hos,hcs⟩;unfold getItem;try with_reducible refine tqo ?_
 first|refine tqa (tqb ?_)|skip
 refine tqa (wpAny_sequenceKey ht.typeIs `d ?_)
 refine tqa (wpAny_callSpecial?_slot (name:=Str.ofString "__getitem__") ht.typeIs O8
  (wpAny_call_entry O8 ht.typeIs entry_tuple_getitem ?_ (args_tuple_getitem _ _)))
 show wpAny _ _ (Builtin.Tuple.tupleItemsOf (.ref t) >>= _) _ _ s;refine tqa (tupleItemsOf_ ht ?_);refine tqa (wpAny_typeOf hTs ?_);rw[if_pos `d]
 unfold Builtin.Slice.sliceApplied Builtin.Slice.sliceFields;refine tqa (tqa (tqa (tqf hos hds (x:=.none) rfl (tqa (tqf hos hds (x:=.none) rfl (tqa (tqf hos hds (x:=.int (-1) k) rfl (tqb ?_))))))));refine tqa (slicePart_int ?_);show wpAny _ _ (if ((-1:Int)==0)=true then _ else _) _ _ s;rw[if_neg `d]
 refine tqa (slicePart_none (tqa (slicePart_none (tqa (tqb ?_)))));have ea:Builtin.Slice.sliceAdjust none none (-1) (items.size:Int)=((items.size:Int)-1,-1):=by simp[Builtin.Slice.sliceAdjust]
 have ep:Builtin.Slice.slicePlaces ((items.size:Int)-1) (-1) (-1)=items.size:=by
  unfold Builtin.Slice.slicePlaces;rw[if_neg `d]
  split
  ·simp
  ·omega
 show wpAny _ _ (match Builtin.Slice.sliceAdjust none none (-1) (items.size:Int) with|(lo,hi)=>pure (lo,(-1:Int),Builtin.Slice.slicePlaces lo hi (-1))) _ _ s
 rw[ea];show wpAny _ _ (pure ((items.size:Int)-1,(-1:Int),Builtin.Slice.slicePlaces ((items.size:Int)-1) (-1) (-1))) _ _ s;rw[ep];refine tqb ?_;have hno:¬ ((((items.size:Int)-1)==0&&(-1:Int)==1&&items.size==items.size)=true):=`s
 show wpAny _ _ (if (((items.size:Int)-1)==0&&(-1:Int)==1&&items.size==items.size)=true then _ else _) _ _ s;rw[if_neg hno];have pick:((List.range items.size).filterMap λ(m:Nat)=>items[(((items.size:Int)-1)+(m:Int) * -1).toNat]?).toArray=items.toList.reverse.toArray:=by
  rw[<- rT items.size items.toList `s]
  congr 1
  refine jL λm hm=>?_;have hm:=Qq.mp hm;have e3:((items.size:Int)-1+(m:Int) * -1).toNat=items.size-1-m:=`a
  rw[e3];simp
 rw[pick];first
  |exact tqa (m:=Builtin.Tuple.tupleExact _) (wpAny_newObj_type (tqb {_,rfl,tqb h}) htake)
  |exact tqa (m:=Builtin.Tuple.tupleExact _) (wpAny_newObj_type (tqa (tqb (tqb {_,rfl,tqb h}))) htake)
  |exact tqa (tqa (m:=Builtin.Tuple.tupleExact _) (wpAny_newObj_type (tqb (tqb {_,rfl,tqb h})) htake))
  |exact tqa (tqa (m:=Builtin.Tuple.tupleExact _) (wpAny_newObj_type (tqb {_,rfl,tqb h}) htake))
end
section
variable{fa:Fa}{X:Cx}{a st:Expr}{ga:GE}{pos p2:Pos}
noncomputable def xx (m:Bool)(x:D)(M:Mem):Res D:=match x with
 |.tup xs=>.ok (.tup xs.reverse) M
 | x => match fZ M x with
   |some xs=>bE m xs.reverse M
   |none=>.bad
noncomputable def oS (m:Bool)(a:GE):GE:=λZ M=>(a Z M).bind λx M=>xx m x M
noncomputable def Ii (K:OA):V->Hp->VK->Prop:=λx H Q=>∃a xs,x=.ref a/\((c9 K H a xs/\∀p,H p=none->Q (.ref p) (upd H p (.lst xs.reverse)))\/(dQ K H a xs/\∀p,H p=none->Q (.ref p) (upd H p (.tup xs.reverse))))
def lP:∀{xs:List V}{us:List Oz},Vals xs us->Vals xs.reverse us.reverse
 |_,_,.nil=>.nil
 | _, _, .cons p r => by
   rw[List.reverse_cons,List.reverse_cons];exact(lP r).append (.cons p .nil)
def IH {ta:TE}(ha:PE X a ta){ts:TE}(hst:PE X st ts) :
 PE X (.Subscript a (.Slice none none (some st) p2) pos) (λσ H Q=>ta σ H λx H1=>ts σ H1 λy H2=>y=.int (-1)/\Ii X.K x H2 Q):=by
 intro pins s σ H Q I h;refine Subscript_ (a9 (ha pins s σ H _ I h) λv s1 ⟨x,H1,I1,r1,q1⟩=>?_);refine wpAny_Slice ?_;rw[evalPart_none];refine tqb ?_;refine tqb ?_;rw[evalPart_some];refine a9 (hst pins s1 σ H1 _ I1 q1) λvu s3 ⟨y,H3,I3,r3,ey,q3⟩=>?_;subst ey;obtain⟨k,rfl⟩:=r3;have I4:Inv X pins σ H3 {s3 with heap:=s3.heap.push {cls:=.type "slice",data:=.fields #[.none,.none,.int (-1) k]}}:=I3.kept (t':=s3.toks) λb ob q=>OE _ q
 have hsl:(s3.heap.push {cls:=.type "slice",data:=.fields #[.none,.none,.int (-1) k]}).IsSliceOf s3.heap.objs.size .none .none (.int (-1) k):=Heap.IsSliceOf.new ..;obtain⟨b,xs,rfl,q⟩:=q3;cases r1;have key:∃T id,typeLookup (.type T) "__getitem__"=pure (some (.builtin id))/\Shared.TypeIs {s3 with heap:=s3.heap.push {cls:=.type "slice",data:=.fields #[.none,.none,.int (-1) k]}} (.ref b) T/\wpAny (model X.prog X.w) X.A (getItem (.ref b) (.ref s3.heap.objs.size)) (EP X pins σ Q) X.xe {s3 with heap:=s3.heap.push {cls:=.type "slice",data:=.fields #[.none,.none,.int (-1) k]}}:=by
  rcases q with⟨hx,q⟩|⟨hx,q⟩
  ·obtain⟨its,r,ht,hz⟩:=I4.list hx;have hlen:=r.length;refine{"list",_,slot_list_getitem.lookup,ht.isList.typeIs,?_};refine wpAny_getItem_list_slice ht.isList hsl .none .none (.int (-1) k) `d ?_ (by rw[OH]<;>omega)
   rw[sP];refine{.ref _,_,I4.laid (t':=s3.toks) (o:=.lst xs.reverse) (λb ob q=>OE _ q) (OF _) ?_,rfl,q _ (I4.hok.fresh (OF _))};exact{by simpa using hz,_,0,lP r,OZ _ rfl}
  ·obtain⟨its,r,ht,hz⟩:=I4.tuple hx;have hlen:=r.length;refine{"tuple",_,O8.lookup,ht.typeIs,?_};refine jH ht hsl ?_ (by rw[OH,<- hlen];exact hz)
   refine{.ref _,_,I4.laid (t':=s3.toks) (o:=.tup xs.reverse) (λb ob q=>OE _ q) (OF _) ?_,rfl,q _ (I4.hok.fresh (OF _))};exact{by simpa using hz,_,lP r,IsTup.new _ _}
 obtain⟨T,id,hT,ht,hg⟩:=key;show wpAny (model X.prog X.w) X.A (subscriptTail a (.Slice none none (some st) p2) (.ref b) (.ref s3.heap.objs.size)) (EP X pins σ Q) X.xe {s3 with heap:=s3.heap.push {cls:=.type "slice",data:=.fields #[.none,.none,.int (-1) k]}}
 exact tail_any (ops:=[.ref b,.ref s3.heap.objs.size]) ht hT hg (by with_unfolding_all rfl)
def K1 (m:Bool){pc pu:Pos}{k:Nat}(ha:DE fa X a ga):DE fa X (.Subscript a (.Slice none none (some (.UnaryOp .USub (.Constant (.int 1) k pc) pu)) p2) pos) (oS m ga):=
 bG (IH ha (DZ yS zR)) λσ H Q ⟨μ,Z,M,hE,hM,h⟩=>t1 hE hM h λx M1 v H1 μ1 x1 hE1 hM1 r1 h1=>by
  refine{1,rfl,rfl,?_};have lst:∀(ds:List D) (b:Addr) (vs:List V),c9 X.K H1 b vs->aR fa X.K μ1 H1 ds vs->ai (bE m ds.reverse M1) (bg fa X.K μ H Q)->Ii X.K (.ref b) H1 Q:=λds b vs hs hr h1=>by
   obtain⟨_,q⟩:=gV hM1 hr.reverse (kD h1 x1);exact{b,vs,rfl,.inl ⟨hs,q⟩}
  cases x with
  | tup ds =>
    obtain⟨b,vs,rfl,hs,hr⟩:=r1;exact{b,vs,rfl,.inr {hs,gU hM1 hr.reverse (bg.ext h1 x1)}}
  | lst ds =>
    obtain⟨b,vs,rfl,hs,hr⟩:=r1;exact lst ds b vs (c9.of hs.1) hr h1
  | frz ds =>
    obtain⟨b,vs,rfl,hs,hr⟩:=r1;exact lst ds b vs (hs.elim (λ⟨o,z⟩=>.inl (.inr ⟨o,z⟩)) .inr) hr h1
  | cell k =>
    obtain⟨b,rfl,hk⟩:=r1;obtain⟨ds,vs,e,hH,hr⟩:=hM1.mu_lt hk;have h1:ai (match M1[k]? with|some xs=>bE m xs.reverse M1|none=>.bad) (bg fa X.K μ H Q):=h1
    rw[e] at h1;exact lst ds b vs (c9.of hH) hr h1
  |_=>exact h1.elim
end
def mm {fa:Fa}{mg:Str->Option Oz}{i:Nat}{x:Str}{f:Addr}(e:fa i=some f)(m:mg x=some (.ref f)):∀ad,fa i=some ad->mg x=some (.ref ad):=λad h=>by rw[e] at h;cases h;exact m
def us1 {α:Type}{p:List α->Prop}(h:∀a,p [a])(us:List α)(hl:us.length=1):p us:=by
 obtain⟨a,rfl⟩:=List.length_eq_one_iff.mp hl;exact h a
def Mh {α:Type}{p:List α->Prop}(h:∀a b,p [a,b]):∀(us:List α) (hl:us.length=2),p us
 |[a,b],_=>h a b
def us3 {α:Type}{p:List α->Prop}(h:∀a b c,p [a,b,c]):∀(us:List α) (hl:us.length=3),p us
 |[a,b,c],_=>h a b c
def us4 {α:Type}{p:List α->Prop}(h:∀a b c d,p [a,b,c,d]):∀(us:List α) (hl:us.length=4),p us
 |[a,b,c,d],_=>h a b c d
def Aj {K:OA}{h:Heap}{mg:Str->Option Oz}{x:Str}{f:Addr}(X:K.In h)(G:h.Ns mainGlobals mg)(a:PySem.W.nsIn K mainGlobals x=some (some (.ref f))):mg x=some (.ref f):=P8 X G a
def As {P:P6}:QG (ph P) [] []:=.nil
def hG {P:P6}{x:Str}{t:Tok}{a:Addr}{es:List QA}{kvs:List (Str×Addr)}(h:QG (ph P) es kvs):QG (ph P) ({PyData.keyHash P x,.str x t,.ref a}::es) ((x,a)::kvs):=.cons ⟨t,rfl⟩ h
noncomputable def DN (K:OA):Sp:=λvs H Q _=>∃(a:Addr) (ns:List Int),vs=[.ref a]/\c9 K H a (ns.map V.int)/\yD H/\ns.length<=63/\∀H',Q (.bl true) H'
def Jw {fa:Fa}{P:OX}{w:O6}{K:OA}{mg:Str->Option Oz}{base:Heap}{Pg:Nat->Option Df}{n f:Nat}{ad:Addr}{d:Df}{fd:QH}{N:List Str}{st:Stmt}{x qual y:Str}(h:∀f d,Pg f=some d->yH fa P w K mg base f d)
 (hl:∀ns:List Int,ns.length<=63->∃M,ak Pg (n+1) f [.frz (ns.map D.int)] []=.ok (.bl true) M) (e:Pg f=some d) (F:sN K x qual st ad fd) (S:ia N [y] (aW st)) (hs:d.slots=N.length)
 (hbody:∀(call:Call) (n:Nat) (cdv:Oz) (A:Pu) (outer:List Po) (s:OD) (H:Hp) (E:XK),(∀f,jz fa P w K mg base n f (call f))->cv (n+4) (A.deeper (envOfC qual (aW st) s.heap.objs.size ad cdv))->
  kZ fa (fL (gJ P w) P w K mg base N qual (aW st) ad cdv A outer s H E) (dA st) (d.body call)):lp P w K mg base (gJ P w) (n+4+1) ad fd [y] (DN K):=by
 have eq:∀ds M,ak Pg (n+1) f ds M=gX (ak Pg n) d ds M:=λds M=>by show(match Pg f with|none=>Res.bad|some d=>gX (ak Pg n) d ds M)=_;rw[e]
 refine qR F S (λvs H Q E hsp=>?_) λcdv A outer s H vs Q E hr hsp=>{_,hbody (ak Pg n) n cdv A outer s H E (vk h n) hr,?_}
 ·obtain⟨a,ns,rfl,_⟩:=hsp;rfl
 ·obtain⟨a,ns,rfl,hS,hO,hn,q⟩:=hsp;obtain⟨M',e'⟩:=hl ns hn;rw[eq] at e';have rp:aR fa K {λ_=>none,[]} H [.frz (ns.map D.int)] [.ref a]:=by
   refine{.ref a,[],rfl,{a,ns.map V.int,rfl,?_,aR.ints ns},rfl};rcases hS with(z|⟨o,z⟩)|z
   ·rcases hO a with y|⟨o,xs,y⟩
    ·rw[y] at z;cases z
    ·rw[y] at z;cases z
   ·exact .inl ⟨o,z⟩
   ·exact .inr z
  refine sC (μ:={λ_=>none,[]}) (M:=[]) hs {λk ds z=>by simp at z,λ_ _=>rfl,(λ_ _ _ z=>nomatch z),(λ_ z=>nomatch z)} rp ?_
  rw[e'];intro v H' μ' _ _ r;obtain rfl:v=.bl true:=r;exact q H'
def wF {K:OA}{h:Heap}{mg:Str->Option Oz}{x:Str}{ad:Addr}{P:P6}{es:Array QA}{n:Nat}{kvs:List (Str×Addr)}{fa:Fa}{fs:List (Str×Nat)}(X:K.In h)(G:h.Ns mainGlobals mg)(a:PySem.W.nsIn K mainGlobals x=some (some (.ref ad)))
 (l:K.lookup ad=some {cls:=.type "dict",data:=.dict es n}) (he:QG (ph P) es.toList kvs) (nd:(kvs.map (·.1)).Nodup) (ns:(ad==sysModules)=false) (dk:fm fa kvs fs):∃ad kvs,mg x=some (.ref ad)/\gA K P ad kvs/\fm fa kvs fs:=
 {ad,kvs,P8 X G a,{⟨es,n,l,he⟩,nd,ns},dk}
def zk (lo hi:Option Int)(n:Nat):Builtin.Str.strSliceIndices lo hi 1 n=(List.range (HT.aS n n hi-HT.aS n 0 lo)).map (HT.aS n 0 lo+·):=by
 rw[<- sliceRange_one];unfold Builtin.Str.strSliceIndices;simp only[show(1:Int) > 0 by decide,if_true]
 congr 1
 ·cases lo with
  |none=>rfl
  | some i =>
    simp only[HT.aS];split<;>omega
 ·cases hi with
  |none=>rfl
  | some i =>
    simp only[HT.aS];split<;>omega
noncomputable def iX (z:Str)(l h:Nat):Str:={(cut z.cps.toList l h).toArray}
section
variable{fa:Fa}{X:Cx}{a b:Expr}{ga gb:GE}{pos p2:Pos}{tg:Expr}
def ux {v:Oz}{o:Option Int}(h:IsPart v o):∃p:Option (Int×Tok),v=partValue p/\p.map (·.1)=o:=by
 cases h with
 |none=>exact⟨none,rfl,rfl⟩
 |int i t=>exact{some (i,t),rfl,rfl}
def HH:mx X (λx lo hi H Q=>∃z:Str,x=.str z/\z.cps.size<=sizeLine/\Q (.str (iX z (HT.aS z.cps.size 0 lo) (HT.aS z.cps.size z.cps.size hi))) H):=by
 intro pins s σ H x v vl vu lo hi sl Q I rx hs pl pu h;obtain⟨z,rfl,hz,q⟩:=h;obtain⟨t,rfl⟩:=rx;obtain⟨l,rfl,el⟩:=ux pl;obtain⟨u,rfl,eu⟩:=ux pu;refine{"str",_,slot_str_getitem.lookup,typeIs_str s z t,?_};refine wpAny_getItem_str_slice (l:=l) (u:=u) (st:=none) hs rfl ?_;have e:(slicePicked z l u none).filterMap (z.cps[·]?)=cut z.cps.toList (HT.aS z.cps.size 0 lo) (HT.aS z.cps.size z.cps.size hi):=by
  unfold slicePicked;rw[el,eu];show(Builtin.Str.strSliceIndices lo hi 1 z.cps.size).filterMap _=_;rw[zk,pick_run];rfl
 unfold sliceMade;split
 ·next c=>
  have c':(slicePicked z l u none).length=z.length:=by simpa using c
  have e2:iX z (HT.aS z.cps.size 0 lo) (HT.aS z.cps.size z.cps.size hi)=z:=by
   have hl:HT.aS z.cps.size z.cps.size hi-HT.aS z.cps.size 0 lo=z.cps.size:=by
    unfold slicePicked at c';rw[el,eu] at c';have c':(Builtin.Str.strSliceIndices lo hi 1 z.cps.size).length=z.cps.size:=c';rw[zk] at c';simpa using c'
   have hh:HT.aS z.cps.size z.cps.size hi<=z.cps.size:=by
    cases hi with
    |none=>exact OF _
    |some i=>simp only[HT.aS];split<;>omega
   have h0:HT.aS z.cps.size 0 lo=0\/z.cps.size=0:=`a
   unfold iX cut;rw[hl];rcases h0 with h0|h0
   ·rw[h0];rcases z with⟨zs⟩
    show({(List.take zs.size (List.drop 0 zs.toList)).toArray}:Str)=⟨zs⟩;rw[List.drop_zero,Qa `s]
   ·have:z.cps=#[]:=Array.eq_empty_of_size_eq_zero h0;rcases z with⟨zs⟩
    simp at this;subst this;simp
  rw[e2] at q;exact{.str z,H,I,⟨t,rfl⟩,q}
 ·rw[e];refine{?_,.str _,H,I.tok _,{_,rfl},q};have:(cut z.cps.toList (HT.aS z.cps.size 0 lo) (HT.aS z.cps.size z.cps.size hi)).length<=z.cps.size:=by
   unfold cut;rw[PU,List.length_drop];simp;omega
  show(cut z.cps.toList _ _).toArray.size<=sizeLine;simp at this ⊢;omega
noncomputable def nK (hl hh:Bool)(a lo hi:GE):GE:=λZ M=>(a Z M).bind λx M=>(lo Z M).bind λl M=>(hi Z M).bind λh M=>if cH hl l&&cH hh h then(match x with
 | .str z => if z.cps.size <= sz then(match aS z.cps.size 0 l, aS z.cps.size z.cps.size h with
   |some l,some h=>.ok (.str (iX z l h)) M
   |_,_=>.bad) else .bad
 |_=>.bad) else .bad
def HZ (hl hh:Bool){lo hi:Option Expr}{gl gh:GE}(ha:DE fa X a ga)(hlo:DO fa X lo hl gl)(hhi:DO fa X hi hh gh):DE fa X (.Subscript a (.Slice lo hi none p2) pos) (nK hl hh ga gl gh):=
 bG (uu HH ha hlo hhi) λσ H Q ⟨μ,Z,M,hE,hM,h⟩=>t1 hE hM h λx M1 v H1 μ1 x1 hE1 hM1 r1 h1=>by
  obtain⟨l,M2,e2,h2⟩:=aV h1;obtain⟨u,M3,e3,h3⟩:=aV h2;split at h3
  ·next c=>
   rw[OB] at c;obtain⟨ol,el⟩:=part_of c.1;obtain⟨ou,eu⟩:=part_of c.2;refine{μ1,Z,M1,hE1,hM1,?_};rw[e2];refine{ol,c.1,el,λH2 μ2 x2 hM2=>{μ2,Z,M2,hE1.ext x2,hM2,?_}};rw[e3];refine{ou,c.2,eu,λH3 μ3 x3 hM3=>?_};cases x with
   | str z =>
     obtain rfl:v=.str z:=r1;dsimp only at h3;split at h3
     ·next hz=>
      simp only[oz,el,eu,Option.map_some] at h3;exact{z,rfl,by rw[<- dN];exact hz,ba (v:=.str _) hM3 (bg.ext h3 ((x1.trans x2).trans x3)) rfl}
     ·exact h3.elim
   |_=>exact h3.elim
  ·exact h3.elim
def F0:bV X (compareOp .IsNot) (λx y H Q=>∃k,x=.bl k/\y=.bl true/\Q (.bl (!k)) H):=by
 intro pins s σ H x y v u Q I rx ry h;obtain⟨k,rfl,rfl,q⟩:=h;cases rx;cases ry;refine tqb (bA I q ?_);cases k<;>rfl
noncomputable def yh (a b:GE):GE:=λZ M=>(a Z M).bind λx M=>(b Z M).bind λy M=>match x,y with
 |.bl k,.bl true=>.ok (.bl (!k)) M
 |_,_=>.bad
def Io (ha:DE fa X a ga)(hb:DE fa X b gb)(hm:behindInMarks .IsNot b=false):DT fa X (.Compare a [.IsNot] [b] pos) (ax (yh ga gb)):=
 lA (qD F0 ha hb hm) λσ H Q ⟨μ,Z,M,hE,hM,h⟩=>by
  obtain⟨z,M3,e,q⟩:=aV h;have h':ai (yh ga gb Z M) (λd M=>d=z/\M=M3):=by rw[e];exact⟨rfl,rfl⟩
  refine t2 hE hM h' λx y M2 v u H2 μ2 x2 hE2 hM2 r1 r2 h2=>?_;cases x with
  | bl k =>
    cases y with
    | bl j =>
      cases j with
      | true =>
        obtain⟨rfl,rfl⟩:=h2;exact{k,r1,r2,!k,rfl,q H2 μ2 x2 hM2}
      |false=>exact h2.elim
    |_=>exact h2.elim
  |_=>cases y<;>exact h2.elim
noncomputable def signs (z:Str):List D:=z.cps.toList.map λc=>.str {#[c]}
noncomputable def Ku (z:Str):It:={λi _=>i<z.cps.size,λi H x H'=>H'=H/\∃c,z.cps[i]?=some c/\x=.str {#[c]},λi _=>z.cps.size<=i}
def tM {P:OX}{w:O6}{K:OA}{n:String}(hn:["enumerate","zip","dict_itemiterator","dict_reverseitemiterator","odict_iterator","itertools.zip_longest","itertools.pairwise"].contains n=false)(it:Addr)(z:Str)(t:Tok)
 (W:∀A':Pu,A'.handled=none->Walks P w A' it [it] [it] z.cps.size (SignAt z) (λi h=>h.IsStrIter it n z t i))
 (S:∀(A:Pu) (i:Nat) (s:OD) (Q:Oz->OD->Prop) (E:Oz->OD->Prop),s.heap.IsStrIter it n z t i->Q (.ref it) s->wpAny (model P w) A (pyIter (.ref it)) Q E s)
 (D:∀(A:Pu) (hh:A.handled=none) (i:Nat) (s:OD) (Q:Option Oz->OD->Prop) (E:Oz->OD->Prop),s.heap.IsStrIter it n z t i->z.cps.size<=i->(∀h',(∀b o,b≠it->s.heap.get? b=some o->h'.get? b=some o)->Q none {s with heap:=h'})->wpAny (model P w) A (pyNext (.ref it)) Q E s) :
 Turn P w K tg (Ku z) [it] it (λi h=>h.IsStrIter it n z t i) where
 mem:=`s
 obj:=λi h st b hb=>by
  have e:b=it:=by simpa using hb
  subst e;obtain⟨o,e,c,d⟩:=st;exact{o,e,λv z=>by rw[d] at z;cases z}
 keep:=λi h h' st k=>let⟨o,e,r⟩:=st;{o,k it `s o e,r}
 item:=by
  intro X hP hw hK hc i pins s σ H E I hf st hg;subst hP hw hK;obtain⟨f0,f1,f2,f3,f4,f5⟩:=hf it `s
  refine(W X.A (I.ok.hd hc)).item i s _ _ hg st λv h' tk hv st' kk=>?_;obtain⟨c,u,hc',rfl⟩:=hv;have I1:Inv X pins σ H {s with heap:=h',toks:=tk}:=I.turned (λb o hb e=>kk b o (by simpa using hb) e) f0 f1 f3 f4 f5
  obtain⟨o,e,co,d⟩:=id st';exact{_,rfl,tj (s:={s with heap:=h',toks:=tk}) e co d hn {.str {#[c]},H,I1,⟨u,rfl⟩,⟨rfl,c,hc',rfl⟩,st',λb hb=>(hf b hb).1}}
 done:=by
  intro X hP hw hK hc i pins s σ H E I hf st hg;subst hP hw hK;obtain⟨f0,f1,f2,f3,f4,f5⟩:=hf it `s
  exact D X.A (I.ok.hd hc) i s _ _ st hg λh' eb=>{rfl,I.turned (t':=s.toks) (λb o hb e=>eb b o hb e) f0 f1 f3 f4 f5}
 self:=λA i s Q E st h=>S A i s Q E st h
def IB {l:Expr}{tl:TE}(hl:PE X l tl):PI X tg l (λσ H R=>tl σ H λx H1=>∃z,x=.str z/\R (Ku z) H1):=by
 intro pins s σ H R I h;refine a9 (hl pins s σ H _ I h) λv s1 ⟨x,H1,I1,r1,q1⟩=>?_;obtain⟨z,rfl,q⟩:=q1;obtain⟨t,rfl⟩:=r1;have fp:∀b∈[s1.heap.objs.size],gF X pins H1 b:=λb hb=>by
  have e:b=s1.heap.objs.size:=by simpa using hb
  subst e;exact I1.fpOk (OF _) (I1.hok.fresh (OF _))
 cases ha:z.cps.all (· < 128)
 ·refine wpAny_pyIter_wide ha ?_;exact{s1.heap.objs.size,[s1.heap.objs.size],_,_,H1,rfl,I1.kept (t':=s1.toks) λb o e=>OE _ e,tM (n:="str_iterator") rfl _ z t (λA' h=>Walks.strWide h _ z t) (λA i s Q E st h=>wpAny_pyIter_striter_wide st h) (λA hh i s Q E st hi k=>wpAny_pyNext_wide_end hh st `o k),{_,OZ _ rfl,rfl,rfl},fp,q}
 ·refine wpAny_pyIter_ascii ha ?_;exact{s1.heap.objs.size,[s1.heap.objs.size],_,_,H1,rfl,I1.kept (t':=s1.toks) λb o e=>OE _ e,tM (n:="str_ascii_iterator") rfl _ z t (λA' h=>Walks.strAscii h _ z t) (λA i s Q E st h=>wpAny_pyIter_striter_ascii st h) (λA hh i s Q E st hi k=>wpAny_pyNext_ascii_end hh st `o k),{_,OZ _ rfl,rfl,rfl},fp,q}
noncomputable def qc (ga:GE):Env->Mem->Res Walk:=λZ M=>(ga Z M).bind λx M=>match x with
 |.str z=>.ok (λ_=>some (signs z)) M
 |_=>.bad
def Bf {μ0:Mu}{H0:Hp}(z:Str):dW fa X.K μ0 H0 (λ_=>some (signs z)) (Ku z):=λμ H M ds x hM e=>by
 cases e;refine{λi d hd=>?_,λi hi=>(show z.cps.size<=i by simpa[signs] using hi)}
 have hd:(signs z)[i]?=some d:=hd;unfold signs at hd;rw[Ph] at hd;cases e:z.cps.toList[i]? with
 |none=>rw[e] at hd;cases hd
 | some c =>
   rw[e] at hd;have e':D.str {#[c]}=d:=OG hd;subst e';have e2:z.cps[i]?=some c:=by simpa using e
   refine{(Pj.mp e2).1,λy H' ⟨e1,c',e3,e4⟩=>?_};rw[e2] at e3;cases e3;subst e1 e4;exact{.refl,hM,rfl}
def GL (ha:DE fa X a ga):DI fa X tg a (qc ga):=λpins s σ H R I ⟨μ,Z,M,hE,hM,h⟩=>by
 obtain⟨x,M1,e,q⟩:=aV h;refine IB ha pins s σ H R I {μ,Z,M,hE,hM,?_};rw[e];intro v H1 μ1 x1 m1 r1;cases x with
 | str z =>
   obtain rfl:v=.str z:=r1;exact{z,rfl,q _ H1 μ1 x1 m1 (Bf z)}
 |_=>exact q.elim
end
end LD
namespace LD
open PySem PySem.Spec PySem.Calls PyProof.Rows PySem.W
section
variable{prog:OX}{w:O6}{A:Pu}{E:Oz->OD->Prop}{s:OD}{K:Frag}{x C:Addr}{ox:Obj}{od:Option Obj}{name:Str}
noncomputable def lN (K:Frag)(C:Addr):Bool:=findIn K (.ref C) "__getattribute__"==some (some (.builtin "BaseException.__getattribute__"))&&findIn K (.ref C) "__getattr__"==some none&&mroIn K C (.type "BaseException")==some true&&mroIn K C (.type "object")==some true &&
 findIn K (.ref C) "__class__"==some (some (.builtin "object.__class__"))&&specialIn K (.builtin "object.__class__") "__get__"==some (some (.builtin "getset_descriptor.__get__"))&&takesIn K (.builtin "object.__class__")==some true
noncomputable def NV (prog:OX)(w:O6)(A:Pu)(x C:Addr)(Q:Oz->OD->Prop)(E:Oz->OD->Prop)(s:OD):Builtin.ObjectAttr.Found->Prop
 |.value v=>wpAny (model prog w) A (handedOut v) Q E s
 |.bind g a=>wpAny (model prog w) A.in1 (call g [a,.ref x,.ref C]) (λv s'=>wpAny (model prog w) A (handedOut v) Q E s') (λ_ _=>False) s
 |.missing=>False
def wQ {r:Builtin.ObjectAttr.Found}{tk:Tok}{fill expr:Bool}{Q:Oz->OD->Prop}(X:K.In s.heap)(I:InstAt s.heap x ox C od)(hg:lN K C=true)(hf:findObj K C od name=some r)
 (h:NV prog w A x C Q E s r) :
 wpAny (model prog w) A (getAttrBy (.ref x) (.str name tk) fill expr) Q E s:=by
 unfold lN at hg;simp only[OB,beq_iff_eq] at hg;obtain⟨⟨⟨⟨⟨⟨hga,hgn⟩,hmB⟩,hmO⟩,_⟩,_⟩,_⟩:=hg;obtain⟨hh,g,d,t,os⟩:=s;have L0:=I.type (M:=model prog w);have L1:=looks_findIn (M:=model prog w) X hga;have L2:=looks_findIn (M:=model prog w) X hgn;have L3:=looks_find (M:=model prog w) X I hf;have L4:=looks_mroIn (M:=model prog w) X hmB;have hx2:(Value.builtin "BaseException.__getattribute__"==Value.builtin "object.__getattribute__")=false:=`k
 have hk:builtinKind "BaseException.__getattribute__"=some .slot:=`k
 have hsplit:splitId "BaseException.__getattribute__"=some ("BaseException","__getattribute__"):=`k
 unfold getAttrBy;refine tqo (tqa (L0.at (tqa (L1.at ?_))));show wpAny _ _ (if (true&&Value.builtin "BaseException.__getattribute__"==Value.builtin "object.__getattribute__")=true then _ else _) _ _ _;rw[hx2,if_neg `d]
 unfold getAttrByItsOwn;refine tqa (show wpAny _ _ (typeLookup (.ref C) "__getattr__") _ _ _ from L2.at (tqa (wpAny_attempt (tqo ?_))));unfold callGetattribute;rw[if_neg (by cases expr<;>decide)]
 unfold boundAndCalled;refine tqa (wpAny_of_eq (PySem.F.excAttr_ValueError.ga.bind (.ref x)) ?_);refine wpAny_call (codeAny_call_builtin PySem.F.excAttr_ValueError.ga.plain F.entry_bexc_ga ?_);simp only[checkBuiltinCall,hk,hsplit];refine tqa (show wpAny _ _ (isInstance (.ref x) (.type "BaseException")) _ _ _ from tqa (L0.at (L4.at ?_)));have ha:=F.args_bexc_ga (.ref x) (.str name tk)
 repeat (any_goals (first|assumption|wp_step))
 refine wpAny_loadPart_at I.at_ (tqb ?_);rw[I.cls];refine tqa (L3.at ?_);cases r with
 |value v=>exact tqb h
 | bind g a =>
   show wpAny _ _ (holding [a] (call g [a,.ref x,.ref C]) >>= ret) _ _ _;exact tqa (tqo (wpAny_mono h (λv s' z=>tqb z) λ_ _ z=>z.elim))
 |missing=>exact h.elim
def AJ {Q:Option Oz->OD->Prop}(X:K.In s.heap)(I:InstAt s.heap x ox C od)(hg:lN K C=true)(h:Q (some (.ref C)) {s with toks:=s.toks+1}):wpAny (model prog w) A (getAttr? (.ref x) "__class__") Q E s:=by
 have hg':=hg;unfold lN at hg';simp only[OB,beq_iff_eq] at hg';obtain⟨⟨⟨⟨⟨⟨_,_⟩,_⟩,hm⟩,ha⟩,hn⟩,htk⟩:=hg';have hf:findObj K C od "__class__"=some (.bind (.builtin "getset_descriptor.__get__") (.builtin "object.__class__")):=by
  obtain⟨cd,hc,_⟩:=PB.mp hm;unfold findObj;rw[hc,Qp,ha,Qp];simp[hn,htk]
 unfold getAttr? getAttrBy?;refine tqa (wpAny_mkText (tqa (wpAny_attempt (wQ (s:={s with toks:=s.toks+1}) (r:=.bind (.builtin "getset_descriptor.__get__") (.builtin "object.__class__")) X I hg hf ?_))))
 exact wpAny_call (class_get (s:={s with toks:=s.toks+1}) (ox:=ox) (od:=od) X I hm (handed_on rfl (tqb h)))
def Gv {c:Oz}{Q:Oz->OD->Prop}(X:K.In s.heap)(I:InstAt s.heap x ox C od)(hg:lN K C=true)(hty:∀(M:Model) h',K.In h'->QJ M h' (typeOf c) (.type "type"))(his:∀(M:Model) h',K.In h'->QJ M h' (isType c) true)
 (hne:(Value.ref C==c)=false) (hsub:∀(M:Model) h',K.In h'->QJ M h' (isSubtype (.ref C) c) false) (h:Q (.bool false) {s with toks:=s.toks+1}):wpAny (model prog w) A (call (.builtin "isinstance") [.ref x,c]) Q E s:=by
 refine call_isinstance_of ?_ (by intro q;cases q)
 have hisD:QJ (model prog w) s.heap (isType (.ref C)) true:=by
  have hg':=hg;unfold lN at hg';simp only[OB,beq_iff_eq] at hg';obtain⟨cd,hc,_⟩:=PB.mp hg'.1.1.1.2;unfold clsIn at hc;split at hc
  ·rename_i c' d' cd' sl' ho;intro A' Q' E' s' k q;unfold isType loadHead;exact tqa (wpAny_loadPart (k _ _ (X _ _ ho)) (tqb q))
  ·cases hc
 have hty:=hty (model prog w) s.heap X;have his:=his (model prog w) s.heap X;have hsub:=hsub (model prog w) s.heap X;obtain⟨h0,g,d,tt,os⟩:=s;have L0:=I.type (M:=model prog w);have LI:QJ (model prog w) h0 (isInstance (.ref x) c) false:=L0.andThen hsub;unfold Builtin.«isinstance.nested»;refine tqa (L0.at ?_);rw[if_neg (λq=>by rw[hne] at q;exact Bool.noConfusion q)]
 refine tqa (hty.at ?_);rw[if_pos `d]
 k_delta "plainIsInstance"
 refine tqa (tqa (his.at ?_));simp only[Bool.not_true,Qj,if_false];refine tqa (LI.at ?_);simp only[Qj,if_false];refine tqa (AJ X I hg ?_);refine tqa (hisD.at ?_);simp only[Bool.not_true,Qj,if_false];refine tqa (wpAny_rule ?_);refine hsub.at ?_;exact tqb h
def CJ {D:Addr}{Q:Oz->OD->Prop}(X:K.In s.heap)(I:InstAt s.heap x ox C od)(hg:lN K C=true)(e:kin_not K C D=true)(h:Q (.bool false) {s with toks:=s.toks+1}):wpAny (model prog w) A (call (.builtin "isinstance") [.ref x,.ref D]) Q E s:=by
 unfold kin_not at e;rw[OB,OB,OB] at e;obtain⟨⟨⟨e0,e1⟩,e2⟩,e3⟩:=e;refine Gv X I hg (λ_ h' X'=>looks_typeIn X' (beq_iff_eq.mp e2)) (λ_ h' X'=>?_) ?_ (λ_ h' X'=>looks_subIn X' (beq_iff_eq.mp e3)) h
 ·unfold clsIn at e1;split at e1
  ·rename_i c' d' cd' sl' ho;intro A' Q' E' s' k q;unfold isType loadHead;exact tqa (wpAny_loadPart (k _ _ (X' _ _ ho)) (tqb q))
  ·cases e1
 ·exact Bool.eq_false_iff.mpr λq=>of_decide_eq_true e0 (Value.ref.inj (beq_iff_eq.mp q))
def Gw {T:String}{Q:Oz->OD->Prop}(X:K.In s.heap)(I:InstAt s.heap x ox C od)(hty:typeOf (.type T)=pure (.type "type"))(hm:mroIn K C (.type T)=some true)(h:Q (.bool true) s):wpAny (model prog w) A (call (.builtin "isinstance") [.ref x,.type T]) Q E s:=by
 refine call_isinstance_of ?_ (by intro q;cases q)
 have L1:=looks_mroIn (M:=model prog w) X hm;obtain⟨h0,g,d,tt,os⟩:=s;have L0:=I.type (M:=model prog w);have LI:QJ (model prog w) h0 (isInstance (.ref x) (.type T)) true:=L0.andThen L1;unfold Builtin.«isinstance.nested»;refine tqa (L0.at ?_);rw[if_neg (by intro q;cases beq_iff_eq.mp q)]
 refine tqa (wpAny_of_eq hty ?_);rw[if_pos `d]
 k_delta "plainIsInstance"
 refine tqa (tqa (wpAny_of_eq (a:=true) rfl ?_));simp only[Bool.not_true,Qj,if_false];refine tqa (LI.at ?_);simp only[if_true];exact tqb (tqb h)
end
end LD
namespace LD
open PySem PySem.Spec PyProof.Rows L2
noncomputable def dE (f:Nat)(c:Call)(s:GA):GE:=λZ M=>match s Z M with
 |.ok ds M=>c f ds M
 |_=>.bad
noncomputable def Bb (k:D->Mem->Res Fl)(Z:Env):Res D->Res Fl
 |.ok d M=>k d M
 |.err x M=>.ok (.exc x Z) M
 |.bad=>.bad
noncomputable def iR (a:GE):GS:=λZ M=>Bb (λ_ M=>.ok (.next Z) M) Z (a Z M)
noncomputable def jb (t:dB)(a:GE):GS:=λZ M=>Bb (λx M=>(cK M (cX t x Z)).bind λρ1 M=>.ok (.next ρ1) M) Z (a Z M)
noncomputable def xu (a:GE):GS:=λZ M=>Bb (λx M=>.ok (.ret x) M) Z (a Z M)
noncomputable def yi (t:GT)(a b:GE):GE:=λZ M=>match t Z M with
 |.ok k M=>if k then a Z M else b Z M
 |_=>.bad
noncomputable def j6 (c:Nat)(s:GA):GS:=λZ M=>match s Z M with
 |.ok ds M=>if ds.length<=sz then .ok (.exc (.exc c none) Z) M else .bad
 |_=>.bad
noncomputable def cf (o:Option Nat)(a:GE):GE:=λZ M=>(a Z M).bind λx M=>match x with
 |.exc c _=>.ok (.bl (match o with|some k=>k==c|none=>true)) M
 |_=>.bad
noncomputable def Bc (i:Nat):Fl->Mem->Res Fl
 |.next Z,M=>.ok (.next (Z.set i none)) M
 |.ret d,M=>.ok (.ret d) M
 |.exc _ _,_=>.bad
noncomputable def MR (i:Nat)(h:GS):Fl->Mem->Res Fl
 |.exc x Z,M=>(h (Z.set i (some x)) M).bind (Bc i)
 |fl,M=>.ok fl M
noncomputable def oy (b:GS)(i:Nat)(h:GS):GS:=λZ M=>(b Z M).bind (MR i h)
noncomputable def Mn (fa:Fa)(X:Cx)(g:GE):TE:=λσ H Q=>∃μ Z M,bt fa X.K μ H σ Z/\RelM fa X.K μ H M/\jr (g Z M) (bg fa X.K μ H Q) (λx M'=>XW fa X μ H x Z M')
abbrev DX (fa:Fa)(X:Cx)(e:Expr)(g:GE):Prop:=PE X e (Mn fa X g)
section
variable{fa:Fa}{X:Cx}{a b:Expr}{ga gb:GE}{ta:GT}{pos p:Pos}{es:List Expr}{gs:GA}{n:Nat}
def x_call (f:Nat){x:Str}{call:Call}(C:∀f,jz fa X.prog X.w X.K X.mg X.base n f (call f))(hr:cv (n+4) X.A)(hex:X.ex=[])(hg:Gl X x)(hm:∀ad,fa f=some ad->X.mg x=some (.ref ad))(hs:DA fa X (a::es) gs)
 (hdb:(x==("__debug__":Str))=false) (he:notStar a=true) (hpl:es.all notStar=true):DX fa X (.Call (.Name x p) (a::es) [] pos) (dE f call gs):=by
 intro pins s σ H Q I ⟨μ,Z,M,hE,hM,h⟩;unfold dE at h;cases eg:gs Z M with
 |err=>rw[eg] at h;exact h.elim
 |bad=>rw[eg] at h;exact h.elim
 | ok ds M1 =>
   rw[eg] at h;have h:jr (call f ds M1) (bg fa X.K μ H Q) (λx M'=>XW fa X μ H x Z M'):=h;rcases C f with hb|⟨ad,fd,ps,h1,h2,h3,h4,F⟩
   ·rw[hb] at h;exact h.elim
   ·have hl:ds.length=ps.length:=by
     by_cases hl:ds.length=ps.length
     ·exact hl
     ·rw[h4 ds M1 hl] at h;exact h.elim
    refine wpAny_Call_Name_kw (gv I hg (hm ad h1) ?_ hdb);refine PySem.W.callWith_K (h₀:=X.base) I.ok.mod.kin h2 (a9 (hs pos pins s σ H (λvs H1=>∃μ1,Ext μ H μ1 H1/\RelM fa X.K μ1 H1 M1/\aR fa X.K μ1 H1 ds vs) I {μ,Z,M,hE,hM,by rw[eg];exact λvs H1 μ1 x1 m1 r1=>⟨μ1,x1,m1,r1⟩}) λus s1 ⟨vs,H1,I1,r,μ1,x1,m1,r1⟩=>{I1.kIn,?_}) (bK he) (dR hpl)
    have hsp:HC fa X.K ps.length (call f) vs H1 Q λCv dx H'=>∃y M' μ' C' c p,Cv=.ref C'/\Ext μ1 H1 μ' H'/\RelM fa X.K μ' H' M'/\y=.exc c p/\fa (fz c)=some C'/\yA H' c dx p/\XW fa X μ H y Z M':=by
     refine{by rw[r1.length];exact hl,μ1,M1,ds,m1,r1,?_}
     cases ec:call f ds M1 with
     |ok d M2=>rw[ec] at h;exact bg.ext h x1
     |err y M2=>rw[ec] at h;exact λC dx c p H' μ' y' m ex hc hn=>{_,M2,μ',C,c,p,rfl,y',m,ex,hc,hn,h}
     |bad=>rw[ec] at h;exact h.elim
    have hl2:us.length=ps.length:=by rw[<- r.length,r1.length];exact hl
    have hb:=h3 s1 us I1.kIn (by simpa using hl2)
    rw[List.append_nil] at hb;refine wpAny_call (codeAny_mono (F.run X.A X.stack s1 H1 {us,[]} us vs Q _ hr I1.env0 hb r hsp) λr' s' hq=>?_);cases r' with
    | error e =>
      unfold CR at hq;dsimp only at hq;obtain⟨a',C',dx,H',rfl,I',fl,y,M',μ',C2,c,p,ec,ye,m',ey,hc,hn,hw⟩:=Ay I1 hex hq;cases ec;exact hw pins σ H' μ' s' a' C' dx c p I' (x1.trans ye) ((hE.ext x1).ext ye) m' ey hc hn fl
    | ok fl =>
      cases fl with
      |ret u=>exact I1.after hq
      |next=>exact False.elim hq
      |brk=>exact False.elim hq
      |cont=>exact False.elim hq
def KA {c:Expr}(hc:DT fa X c ta)(ha:DX fa X a ga)(hb:DX fa X b gb):DX fa X (.IfExp c a b pos) (yi ta ga gb):=
 bG (uv hc ha hb) λσ H Q ⟨μ,Z,M,hE,hM,h⟩=>by
  unfold yi at h;cases et:ta Z M with
  |err=>rw[et] at h;exact h.elim
  |bad=>rw[et] at h;exact h.elim
  | ok k M1 =>
    rw[et] at h;refine{μ,Z,M,hE,hM,?_};rw[et];intro H1 μ1 x1 m1;have go:∀g:GE,jr (g Z M1) (bg fa X.K μ H Q) (λx M'=>XW fa X μ H x Z M')->Mn fa X g σ H1 Q:=λg q=>by
     refine{μ1,Z,M1,hE.ext x1,m1,?_};cases e:g Z M1 with
     |ok d M2=>rw[e] at q;exact bg.ext q x1
     |err y M2=>rw[e] at q;exact XW.ext q x1
     |bad=>rw[e] at q;exact q
    cases k with
    |true=>exact go ga h
    |false=>exact go gb h
def KW (ha:DX fa X a ga)(hs:swapsWith a none pos.line X.env=pure false):DS fa X (.Expr a pos) (iR ga):=
 fQ (nz ha hs) λD' σ H ⟨μ,Z,M,hE,hM,h⟩=>{μ,Z,M,hE,hM,by
  unfold iR at h;cases e:ga Z M with
  |ok d M1=>rw[e] at h;exact λv H1 μ1 x1 m1 r1=>h σ H1 μ1 x1 (hE.ext x1) m1
  |err x M1=>rw[e] at h;exact h
  |bad=>rw[e] at h;exact h.elim}
def HP {tg:Expr}{t:dB}(ha:DX fa X a ga)(hg:PG X tg (gT fa X.K t))(hs:swapsWithSole [tg] a pos.line X.env=pure false)(hw:swappedStores [tg] a X.env=pure none)(h1:(assignEach [tg] X.env).map (·.2)=[assign tg X.env]) :
 DS fa X (.Assign [tg] a pos) (jb t ga):=
 fQ (uo ha hg hs hw h1) λD σ H ⟨μ,Z,M,hE,hM,h⟩=>{μ,Z,M,hE,hM,by
  unfold jb at h;cases e:ga Z M with
  | ok d M1 =>
    rw[e] at h;obtain⟨ρ1,M2,e',q⟩:=aV h;cases eb:cX t d Z with
    |none=>rw[eb] at e';cases e'
    | some ρ2 =>
      rw[eb] at e';cases e';exact λv H1 μ1 x1 m1 r1=>{μ1,Z,_,d,ρ1,hE.ext x1,m1,r1,eb,λσ1 hE2=>q σ1 H1 μ1 x1 hE2 m1}
  |err x M1=>rw[e] at h;exact h
  |bad=>rw[e] at h;exact h.elim}
def HM (ha:DX fa X a ga):DS fa X (.Return (some a) pos) (xu ga):=
 fQ (zM ha) λD' σ H ⟨μ,Z,M,hE,hM,h⟩=>{μ,Z,M,hE,hM,by
  unfold xu at h;cases e:ga Z M with
  |ok d M1=>rw[e] at h;exact h
  |err x M1=>rw[e] at h;exact h
  |bad=>rw[e] at h;exact h.elim}
end
abbrev mZ:List Oz:=[.type "ValueError",.type "Exception",.type "BaseException",.type "object"]
noncomputable def HJ (K:OA)(C:Addr)(f:ClassData->Addr->List Oz->String->Bool):Bool:=match K.lookup C with
 | some {.type "type", _, .cls cd, sl} => (match cd.mro, sl.toList with
   |.ref C'::bm,[_,_,_,_,some (.builtin n),_]=>f cd C' bm n
   |_,_=>false)
 |_=>false
def zz {K:OA}{h:Heap}{C:Addr}{f:ClassData->Addr->List Oz->String->Bool}(X:K.In h)(q:HJ K C f=true) :
 ∃bm N nm q bs hdct sn sub ab col dd k0 k1 k2 k3 k5 dl n C',f {nm,bs,.ref C'::bm,N,q,hdct,sn,sub,ab,col,dl} C' bm n=true/\h.get? C=some {.type "type",dd,.cls {nm,bs,.ref C'::bm,N,q,hdct,sn,sub,ab,col,dl},#[k0,k1,k2,k3,some (.builtin n),k5]}:=by
 unfold HJ at q;split at q
 ·rename_i dd cd sl ho;split at q
  ·rename_i C' bm k0 k1 k2 k3 n k5 hm hs;obtain⟨nm,bs,mro,ns,qn,hd,sn,sub,ab,col,del⟩:=cd;dsimp only at hm;subst hm;have hsl:sl=#[k0,k1,k2,k3,some (.builtin n),k5]:=by
    obtain⟨l⟩:=sl;simp only at hs;rw[hs]
   subst hsl;exact{_,_,_,_,_,_,_,_,_,_,_,_,_,_,_,_,_,_,_,q,X _ _ ho}
  ·cases q
 ·cases q
def CM {K:OA}{h:Heap}{C:Addr}{bmB:List Oz}{newId:String}(X:K.In h)(q:PySem.W.excIn K C bmB newId=true) :
 ∃bm N nm q bs hdct sn sub ab col dd k0 k1 k2 k3 k5 mN,h.get? C=some (excClassObj nm q C N bs bm hdct sn sub ab col dd k0 k1 k2 k3 k5 newId)/\h.Ns N mN/\mN "__init__"=none/\OwnTail h bmB bm:=by
 obtain⟨bm,ns,nm,qn,bs,hd,sn,sub,ab,col,dd,k0,k1,k2,k3,k5,dl,n,C',q,ho⟩:=zz (f:=λcd C' bm n=>C'==C&&n==newId&&!cd.hasDel&&PySem.W.tailIn K bmB bm&&PySem.W.nsOkIn K cd.ns&&PySem.W.nsIn K cd.ns "__init__"==some none) X q;simp only[OB,beq_iff_eq,Qx] at q;obtain⟨⟨⟨⟨⟨rfl,rfl⟩,rfl⟩,ht⟩,hok⟩,hni⟩:=q;exact{bm,ns,nm,qn,bs,hd,sn,sub,ab,col,dd,k0,k1,k2,k3,k5,_,ho,.of_isNs (PySem.W.isNs_of_in X hok),PySem.W.nsMap_none_of_in X hok hni,PySem.W.tail_of_in X ht}
def Ac {P:OX}{w:O6}{H:Hp}{h:Heap}{a:Addr}{o:HO}(x:dg P w H h a o):∃ob,h.get? a=some ob:=by
 cases o with
 |lst xs=>obtain⟨_,_,_,_,e⟩:=x;exact{_,e}
 |tup xs=>obtain⟨_,_,_,ob,e,_⟩:=x;exact{_,e}
 |dK kvs=>obtain⟨_,_,_,_,o,_,_,e,_⟩:=x;exact{_,e}
 |dT kvs=>obtain⟨_,_,_,_,o,_,_,e,_⟩:=x;exact{_,e}
 |set S n=>obtain⟨o,_,_,_,e,_⟩:=x;exact{_,e}
 |ins C dx fs=>obtain⟨_,_,_,e,_⟩:=x;exact{_,e}
 |own y=>exact x
 |xd fs=>obtain⟨_,⟨_,_,_,e,_⟩,_⟩:=x;exact{_,e}
 |rng lo hi=>obtain⟨_,_,_,e⟩:=x;exact{_,e}
 |frz ob u=>obtain⟨e,_⟩:=x;exact{_,e}
 |tbl ps=>exact{_,x}
 |met f y=>exact{_,x}
 |ext φ=>obtain⟨_,e,_⟩:=x;exact e
def l9 {X:Cx}{pins:List (Addr×Obj)}{σ:L2.St}{H:Hp}{s:OD}(I:Inv X pins σ H s)(hex:X.ex=[]){e:Addr}(hn:s.heap.get? e=none):lj X e/\H e=none:=by
 refine{{?_,λp hp z=>?_},?_}
 ·cases q:X.s₀.heap.get? e with
  |none=>rfl
  | some o =>
    obtain⟨o',e'⟩:=I.base.there e o q (by rw[hex];simp)
    rw[hn] at e';cases e'
 ·have:=(I.pin p (Qe _ hp)).1;rw[z,hn] at this;cases this
 ·cases q:H e with
  |none=>rfl
  | some u =>
    obtain⟨ob,z⟩:=Ac (I.hok e u q);rw[hn] at z;cases z
section
variable{fa:Fa}{X:Cx}{a b:Expr}{ga gb:GE}{ta:GT}{pos p:Pos}{es:List Expr}{gs:GA}{n:Nat}
def Fu (c:Nat){x:Str}{np cpos:Pos}(hx:∃C,X.mg x=some (.ref C)/\fa (fz c)=some C/\PySem.W.excIn X.K C mZ "ValueError.__new__"=true)(hex:X.ex=[])(hg:Gl X x)(hc:X.calm=true)(hs:DA fa X (a::es) gs)
 (hdb:(x==("__debug__":Str))=false) (he:notStar a=true) (hpl:es.all notStar=true):DS fa X (.Raise (some (.Call (.Name x np) (a::es) [] cpos)) none pos) (j6 c gs):=by
 intro pins s σ H D' I ⟨μ,Z,M,hE,hM,h⟩;obtain⟨C,hmC,hfC,hin⟩:=hx;obtain⟨bm,N,nm,q,bs,hdct,sn,sub,ab,col,dd,k0,k1,k2,k3,k5,mN,hC,hN,hni,T⟩:=CM I.ok.mod.kin hin;unfold j6 at h;cases eg:gs Z M with
 |err=>rw[eg] at h;exact h.elim
 |bad=>rw[eg] at h;exact h.elim
 | ok ds M1 =>
   rw[eg] at h;dsimp only at h;split at h
   ·next hz=>
    have h:XW fa X μ H (.exc c none) Z M1:=h;refine wpAny_Raise_call_subT (nm:=nm) (q:=q) (N:=N) (bs:=bs) (hdct:=hdct) (sn:=sn) (sub:=sub) (ab:=ab) (col:=col) (dd:=dd) (k0:=k0) (k1:=k1) (k2:=k2) (k3:=k3) (k5:=k5) PySem.F.excBase_ValueError (T.hasType `k) (I.ok.hd hc) (dR (es:=a::es) (by simp[he,hpl])) hni (gv I hg hmC {rfl,?_} hdb)
    have ar:=a9 (hs cpos pins s σ H (λvs H1=>∃μ1,Ext μ H μ1 H1/\RelM fa X.K μ1 H1 M1/\aR fa X.K μ1 H1 ds vs) I {μ,Z,M,hE,hM,by rw[eg];exact λvs H1 μ1 x1 m1 r1=>⟨μ1,x1,m1,r1⟩}) (Q':=λus s2=>([]:List (Str×Oz))=[]/\us.length<=sizeLine/\s2.heap.get? C=some (excClassObj nm q C N bs bm hdct sn sub ab col dd k0 k1 k2 k3 k5 "ValueError.__new__")/\s2.heap.Ns N mN/\OwnTail s2.heap mZ bm/\∀h' e,Heap.MadeExcOf s2.heap h' e (.ref C) us->X.xe (.ref e) {s2 with heap:=h'}) λus s1 ⟨vs,H1,I1,r,μ1,x1,m1,r1⟩=>by
     refine{rfl,?_,I1.bk _ _ hC,hN.keeps I1.bk,T.keeps I1.bk,λh' e hm=>?_}
     ·rw[<- r.length,r1.length,<- dN];exact hz
     ·obtain⟨t,ht,_,_⟩:=hm.there;obtain⟨n1,n2⟩:=l9 I1 hex hm.new;exact h pins σ H1 μ1 {s1 with heap:=h'} e C none c none (I1.kept (t':=s1.toks) hm.keeps) x1 (hE.ext x1) m1 rfl hfC rfl {n1,n2,_,_,ht,rfl,rfl,rfl,.inl rfl}
    rw[bK he] at ar ⊢;exact PySem.Calls.evalArgs_plain ar
   ·exact h.elim
end
structure ng (fa:Fa) (K:OA):Prop where
 g:∀c C,fa (fz c)=some C->lN K C=true/\PySem.W.mroIn K C (.type "ValueError")=some true/\PySem.W.isIn K (.ref C) C=true
 d:∀c C D,fa (fz c)=some C->fa 999=some D->PySem.W.isIn K (.ref C) D=true/\PySem.W.mroIn K C (.ref D)=some true/\PySem.W.mroIn K D (.type "BaseException")=some true/\PySem.W.typeIn K (.ref D)=some (.type "type")
 n:∀c C c' C',fa (fz c)=some C->fa (fz c')=some C'->c'≠c->PySem.W.kin_not K C C'=true
section
variable{fa:Fa}{X:Cx}{pins:List (Addr×Obj)}{σ:L2.St}{H:Hp}{s:OD}{μ:Mu}
def qO (I:Inv X pins σ H s){c:Nat}{p:Option Int}{v:V}(r:Rep fa X.K μ H (.exc c p) v):∃a C ox od,v=.ref a/\fa (fz c)=some C/\Qi s.heap a ox C od:=by
 obtain⟨a,C,dx,rfl,hf,hH,hn⟩:=r;obtain⟨⟨o,vs,h1,h2,h3,h4,h5⟩,_,_⟩:=I.hok a _ hH;have hc:PySem.W.notCls o=true:=by unfold PySem.W.notCls;rw[h4]
 cases p with
 | none =>
   have hn:dx=none:=hn;exact{a,C,o,none,rfl,hf,h1,h2,hc,by rw[h3,hn];trivial}
 | some i =>
   obtain⟨d,rfl,hd⟩:=hn;obtain⟨mA,⟨od,es,ep,e,_⟩,_⟩:=I.hok d _ hd;exact{a,C,o,some od,rfl,hf,h1,h2,hc,by rw[h3];exact e}
noncomputable def pH (fa:Fa)(K:OA)(o:Option Nat)(w:V)(xs:List V)(H:Hp)(Q:VK):Prop:=∃μ c p v,xs=[v,w]/\Rep fa K μ H (.exc c p) v/\Q (.bl (match o with|some k=>k==c|none=>true)) H
def Gq (hc:ng fa X.K){k:Nat}{D:Addr}(hD:fa (fz k)=some D):di X (.builtin "isinstance") (pH fa X.K (some k) (.ref D)):=by
 intro pins s σ H xs us Q I r h;obtain⟨μ,c,p,v,rfl,hv,q⟩:=h;obtain⟨u,w,rfl,r1,r2⟩:=vals2 r;obtain rfl:w=Value.ref D:=r2;obtain⟨a,C,ox,od,rfl,hf,IA⟩:=qO I hv;obtain rfl:u=Value.ref a:=r1;dsimp only at q;by_cases hb:k=c
 ·subst hb;rw[hD] at hf;cases hf;rw[beq_self_eq_true] at q;exact PySem.W.isi_call I.kIn (λM=>IA.type) (hc.g k D hD).2.2 (by intro z;cases z) {.bl true,H,I,rfl,q}
 ·rw[PJ.mpr hb] at q;exact CJ I.kIn IA (hc.g c C hf).1 (hc.n c C k D hf hD hb) {.bl false,H,I.tok _,rfl,q}
def Gs (hc:ng fa X.K){D:Addr}(hD:fa 999=some D):di X (.builtin "isinstance") (pH fa X.K none (.ref D)):=by
 intro pins s σ H xs us Q I r h;obtain⟨μ,c,p,v,rfl,hv,q⟩:=h;obtain⟨u,w,rfl,r1,r2⟩:=vals2 r;obtain rfl:w=Value.ref D:=r2;obtain⟨a,C,ox,od,rfl,hf,IA⟩:=qO I hv;obtain rfl:u=Value.ref a:=r1;exact PySem.W.isi_call I.kIn (λM=>IA.type) (hc.d c C D hf hD).1 (by intro z;cases z) {.bl true,H,I,rfl,q}
def Gr (hc:ng fa X.K):di X (.builtin "isinstance") (pH fa X.K none (.ty "ValueError")):=by
 intro pins s σ H xs us Q I r h;obtain⟨μ,c,p,v,rfl,hv,q⟩:=h;obtain⟨u,w,rfl,r1,r2⟩:=vals2 r;obtain rfl:w=Value.type "ValueError":=r2;obtain⟨a,C,ox,od,rfl,hf,IA⟩:=qO I hv;obtain rfl:u=Value.ref a:=r1;exact Gw I.kIn IA (by kernel_rfl) (hc.g c C hf).2.1 {.bl true,H,I,rfl,q}
end
section
variable{fa:Fa}{X:Cx}{a:Expr}{ga:GE}{pos p1 p2:Pos}{x:Str}
def qP {o:Option Nat}{w:V}{σ:L2.St}{H:Hp}{Q:VK}(h:tE fa X.K (cf o ga) σ H Q):tE fa X.K ga σ H λv H1=>pH fa X.K o w [v,w] H1 Q:=by
 obtain⟨μ,Z,M,hE,hM,h⟩:=h;exact t1 hE hM h λx M1 v H1 μ1 x1 hE1 hM1 r1 h1=>by
  cases x with
  |exc c p=>exact{μ1,c,p,v,rfl,r1,ba (v:=.bl _) hM1 (bg.ext h1 x1) rfl}
  |_=>exact h1.elim
def qB (k:Nat)(hc:ng fa X.K)(hx:∃D,X.mg x=some (.ref D)/\fa (fz k)=some D)(ha:DE fa X a ga)(hg:Gl X "isinstance")(hm:X.mg "isinstance"=none)(hgt:Gl X x)(hdb:(x==("__debug__":Str))=false)
 (he:starEach [a,.Name x p1] X.env=(false,eval a X.env)::starEach [.Name x p1] X.env):DE fa X (.Call (.Name "isinstance" p2) [a,.Name x p1] [] pos) (cf (some k) ga):=by
 obtain⟨D,h1,h2⟩:=hx;exact bG (iT (Gq (fa:=fa) hc h2) hg hm `k (bX ha (bX (iS hgt h1 (v:=.ref D) rfl hdb) eB `r) he) `d `d he `r) λσ H Q h=>qP h
def FD (hc:ng fa X.K)(hx:∃D,X.mg x=some (.ref D)/\fa 999=some D)(ha:DE fa X a ga)(hg:Gl X "isinstance")(hm:X.mg "isinstance"=none)(hgt:Gl X x)(hdb:(x==("__debug__":Str))=false)
 (he:starEach [a,.Name x p1] X.env=(false,eval a X.env)::starEach [.Name x p1] X.env):DE fa X (.Call (.Name "isinstance" p2) [a,.Name x p1] [] pos) (cf none ga):=by
 obtain⟨D,h1,h2⟩:=hx;exact bG (iT (Gs (fa:=fa) hc h2) hg hm `k (bX ha (bX (iS hgt h1 (v:=.ref D) rfl hdb) eB `r) he) `d `d he `r) λσ H Q h=>qP h
def FC (hc:ng fa X.K)(ha:DE fa X a ga)(hg:Gl X "isinstance")(hm:X.mg "isinstance"=none)(hgt:Gl X "ValueError")(hmt:X.mg "ValueError"=none)
 (he:starEach [a,.Name "ValueError" p1] X.env=(false,eval a X.env)::starEach [.Name "ValueError" p1] X.env):DE fa X (.Call (.Name "isinstance" p2) [a,.Name "ValueError" p1] [] pos) (cf none ga):=
 bG (iT (Gr (fa:=fa) hc) hg hm `k (bX ha (bX (wu hgt hmt `k (v:=.ty "ValueError") rfl) eB `r) he) `d `d he `r) λσ H Q h=>qP h
end
def vL {prog:OX}{w:O6}{A:Pu}{E:Oz->OD->Prop}{s:OD}{K:OA}{x C D:Addr}{ox:Obj}{od:Option Obj}{Q:Bool->OD->Prop}(X:K.In s.heap)(I:Qi s.heap x ox C od)
 (hD:PySem.W.mroIn K D (.type "BaseException")=some true) (hT:PySem.W.typeIn K (.ref D)=some (.type "type")) (hs:PySem.W.mroIn K C (.ref D)=some true) (h:Q true s):wpAny (model prog w) A (excMatches (.ref x) (.ref D)) Q E s:=by
 obtain⟨hh,g,d,t,os⟩:=s;have LS:=PySem.W.looks_mroIn (M:=model prog w) X hs;have LB:=PySem.W.looks_mroIn (M:=model prog w) X hD;have LT:=PySem.W.looks_typeIn (M:=model prog w) X hT;have f:=tc_notTuple;obtain⟨cd,hc,_⟩:=PB.mp hD;unfold PySem.W.clsIn at hc;split at hc
 ·rename_i c' d' cd' sl' ho;have hDo:=X _ _ ho;have LI:QJ (model prog w) hh (isType (.ref D)) true:=λA' Q' E' s' k q=>by
   unfold isType loadHead;exact tqa (wpAny_loadPart (k _ _ hDo) (tqb q))
  unfold excMatches;refine tqa (show wpAny _ _ (isInstance (.ref D) (.type "tuple")) _ _ _ from tqa (LT.at (wpAny_of_eq f ?_)));simp only[Qj,if_false]
  repeat (first|with_reducible refine tqa (LI.at ?_)|with_reducible refine LB.at ?_|with_reducible refine LS.at ?_|with_reducible refine wpAny_loadPart_at I.at_ ?_|wp_step)
  rw[I.cls];refine LS.at ?_
  repeat (first|exact h|wp_step)
 ·cases hc
def qe {M:Model}{A:Pu}{E:Oz->OD->Prop}{New:Addr->Prop}{C a:Addr}{dx:Option Addr}{H:Hp}{s:OD}{Q:Unit->OD->Prop}(f:my New C dx a s.heap H)(h:Q () s):wpAny M A (setFlight (.ref a) none) Q E s:=by
 obtain⟨_,_,o,vs,h1,_,_,h4,tr⟩:=f;unfold setFlight;rcases tr with t|⟨T,oT,ts,t1,_,_,_,t5,t6,t7⟩
 ·refine tqa (tqf h1 h4 t ?_);rw[if_neg `d]
  exact tqb h
 ·refine tqa (tqf h1 h4 t1 ?_);rw[if_pos (show(Value.ref T != Value.none)=true from by simp)]
  refine wpAny_setField t5 t6 (Pj.mp t7).1 ?_;have e:=Heap.update_setField_same s.heap T oT ts 3 .none t5 t6 t7;show Q () {s with heap:=s.heap.update T (Obj.mapFields (·.setIfInBounds 3 .none))}
  rw[e];exact h
section
variable{X:Cx}{pins:List (Addr×Obj)}{σ:L2.St}{H:Hp}{s:OD}
def wK {M:Model}{A:Pu}{E:Oz->OD->Prop}{i:Nat}{x:Str}{ps:Pos}{Q:Unit->OD->Prop}(I:Inv X pins σ H s)(hN:X.N.Nodup)(hi:X.N[i]?=some x)(hk:X.env.scope.names.lookup x=some .local)
 (h:∀s',Inv X pins (σ.set i none) H s'->Q () s'):wpAny M A (do bindName X.env x .none;unbindBehindTheSuite X.env x ps) Q E s:=by
 obtain⟨m,hn,hl⟩:=id I.loc;have hcls:(X.env.scope.kind==.class||(X.env.scope.kind==.module&&X.env.locals != X.env.globals))=false:=by rw[I.ok.kind];rfl
 refine wpAny_nameGoes_keeps hk hn hcls λh' v hn' hs=>h _ ?_;obtain⟨oL,_,_,hoL,_⟩:=id hn;have n0:∀b o,X.s₀.heap.get? b=some o->b≠X.env.locals:=λb o e=>PK (OY (OQ e) I.ok.above);refine{I.ok,I.os,I.bare,{λb o e n hb hx=>?_,λb o e n hb hx=>?_,I.base.free,λb o e hx=>?_,I.base.tups,I.base.frzs,I.base.tbls},{_,hn',λj y v' e1 e2 e3=>?_},λy c e=>?_,I.free,I.freeC,λp hp=>?_,λb ob e=>?_,by simpa using I.len}
 ·exact(hs.2 b (n0 b o e)).trans (I.base.keep b o e n hb hx)
 ·obtain⟨sl,e1⟩:=I.base.slot b o e n hb hx;exact{sl,(hs.2 b (n0 b o e)).trans e1}
 ·obtain⟨o',e1⟩:=I.base.there b o e hx;exact{o',(hs.2 b (n0 b o e)).trans e1}
 ·by_cases hj:j=i
  ·subst hj;by_cases hlt:j<σ.length
   ·rw[Pf hlt] at e2;cases e2
   ·rw[PY (by simpa using hlt)] at e2;cases e2
  ·rw[O3 (PZ hj)] at e2;obtain⟨u',r',q⟩:=hl j y v' e1 e2 e3;refine{u',r',?_};rcases q with⟨k,e⟩|⟨k,c,e,z⟩
   ·refine .inl {k,?_};have:y≠x:=λe=>hj (oH hN e1 (e ▸ hi));simp[this,e]
   ·exact .inr {k,c,e,z.sameBut hs (I.cne y c e)}
 ·obtain⟨w',z⟩:=I.cell y c e;exact{w',z.sameBut hs (I.cne y c e)}
 ·obtain⟨e,n,ne,nf,d⟩:=I.pin p hp;exact{(hs.2 p.1 ne).trans e,n,ne,nf,d}
 ·refine(I.hok b ob e).stay (λc w' hc q=>(hs.2 c ?_).trans q) (λ_ q=>q) λ_ _ q=>q;rintro rfl;rcases hc with hc|hc
  ·rw[<- hc,I.free] at e;cases e
  ·rw[I.free] at hc;cases hc
abbrev kM (X:Cx)(pn:List (Addr×Obj))(E:Oz->OD->Prop):Cx:={X with pn:=pn,xe:=E}
abbrev qa (X:Cx)(v:Oz)(E:Oz->OD->Prop):Cx:={X with A:=X.A.mark (some v),calm:=false,xe:=E}
def si (I:Inv X pins σ H s)(E:Oz->OD->Prop):Inv (kM X (X.pn++pins) E) [] σ H s:=
 {⟨I.ok.mod,I.ok.kind,I.ok.glob,I.ok.blt,I.ok.above,I.ok.inj,I.ok.has,I.ok.cab,I.ok.hd,I.ok.frames,I.ok.stk,I.ok.exf,I.ok.bs,I.ok.bsz,I.ok.noex,I.ok.exfs,I.ok.funs,I.ok.frf⟩,I.os,I.bare,I.base,I.loc,I.cell,I.free,I.freeC,λp hp=>I.pin p (by simpa using hp),I.hok,I.len}
def d7 {E:Oz->OD->Prop}{pins':List (Addr×Obj)}(I:Inv (kM X (X.pn++pins) E) pins' σ H s):Inv X pins σ H s:=
 {⟨I.ok.mod,I.ok.kind,I.ok.glob,I.ok.blt,I.ok.above,I.ok.inj,I.ok.has,I.ok.cab,I.ok.hd,I.ok.frames,I.ok.stk,I.ok.exf,I.ok.bs,I.ok.bsz,I.ok.noex,I.ok.exfs,I.ok.funs,I.ok.frf⟩,I.os,I.bare,I.base,I.loc,I.cell,I.free,I.freeC,λp hp=>I.pin p (Qe _ hp),I.hok,I.len}
def ju (I:Inv X pins σ H s)(v:Oz)(E:Oz->OD->Prop):Inv (qa X v E) pins σ H s:=
 {{I.ok.mod,I.ok.kind,I.ok.glob,I.ok.blt,I.ok.above,I.ok.inj,I.ok.has,I.ok.cab,(λz=>nomatch z),I.ok.frames,I.ok.stk,I.ok.exf,I.ok.bs,I.ok.bsz,I.ok.noex,I.ok.exfs,I.ok.funs,I.ok.frf},I.os,I.bare,I.base,I.loc,I.cell,I.free,I.freeC,I.pin,I.hok,I.len}
def hJ {v:Oz}{E:Oz->OD->Prop}(hh:X.calm=true->X.A.handled=none)(I:Inv (qa X v E) pins σ H s):Inv X pins σ H s:=
 {⟨I.ok.mod,I.ok.kind,I.ok.glob,I.ok.blt,I.ok.above,I.ok.inj,I.ok.has,I.ok.cab,hh,I.ok.frames,I.ok.stk,I.ok.exf,I.ok.bs,I.ok.bsz,I.ok.noex,I.ok.exfs,I.ok.funs,I.ok.frf⟩,I.os,I.bare,I.base,I.loc,I.cell,I.free,I.freeC,I.pin,I.hok,I.len}
end
section
variable{fa:Fa}{X:Cx}{pos np hp:Pos}{x nm:Str}{i:Nat}{body suite:List Stmt}{b0:Stmt}{gB gH:GS}
def bt.unset {K:OA}{μ:Mu}{H:Hp}{σ:L2.St}{Z:Env}(h:bt fa K μ H σ Z)(i:Nat):bt fa K μ H (σ.set i none) (Z.set i none):=by
 refine{by simp[h.len],λj d e=>?_}
 by_cases hj:j=i
 ·subst hj;by_cases hl:j<Z.length
  ·rw[Pf hl] at e;cases e
  ·rw[PY (by simpa using hl)] at e;cases e
 ·rw[O3 (PZ hj)] at e;obtain⟨v,h1,h2⟩:=h.at' j d e;exact{v,by rw[O3 (PZ hj)];exact h1,h2}
def KU (hc:ng fa X.K)(hx:∃D,X.mg x=some (.ref D)/\fa 999=some D)(hex:X.ex=[])(hst:X.stack=X.env::X.outer)(hfr:X.env.frame=some X.env.locals)(hN:X.N.Nodup)(hi:X.N[i]?=some nm)(hl:X.env.scope.names.lookup nm=some .local)
 (hg:Gl X x) (hdb:(x==("__debug__":Str))=false) (hb:∀pn E,kZ fa (kM X pn E) body gB) (hh:∀v E,kZ fa (qa X v E) (b0::suite) gH) :
 DS fa X (.Try body [.ExceptHandler (some (.Name x np)) (some nm) (b0::suite) hp] [] [] pos) (oy gB i gH):=by
 intro pins s σ H D' I ⟨μ,Z,M,hE,hM,h⟩;obtain⟨D,hmD,hfD⟩:=hx;obtain⟨fl,M1,e,q⟩:=aV h;refine wpAny_Try_except (wpAny_mono (hb (X.pn++pins) (λe s₁=>wpAny (model X.prog X.w) X.A (noteFrame e X.env) (λ_ s₂=>wpAny (model X.prog X.w) X.A (setFlight e none) (λ_ s₃=>wpAny (model X.prog X.w) X.A (handleBy e X.env [.ExceptHandler (some (.Name x np)) (some nm) (b0::suite) hp]) (SP X pins D') X.xe s₃) X.xe s₂) X.xe s₁) [] s σ H D' (si I _) {μ,Z,M,hE,hM,?_}) (λf s1 z=>?_) λ_ _ z=>z)
 ·rw[e];cases fl with
  |next ρ'=>exact q
  |ret d=>exact q
  | exc y ρ1 =>
    intro pins' σ' H' μ' s' a C dx c p I1 ye hE1 hM1 ey hcC hn fl;have I1:=I1.pins_of (pins':=[]) (λp hp=>nomatch hp);have hall:∀p∈X.pn++pins,p.1≠a:=fl.1.2;refine qF (P:=X.prog) (w:=X.w) (base:=X.base) (New:=lj (kM X (X.pn++pins) _)) (outer:=X.outer) (by rw[<- hst];exact I1.ok.frames) (by rw[<- hst];exact I1.stack) hfr fl (λb z=>(l9 I1 hex (Qo z)).1) I1.hok (by rw[<- hst];exact I1.stkFree) λh' ch hch u hok fl2=>?_
    have I2:Inv X pins σ' H' {s' with heap:=h'}:=uT (d7 I1) (λb hb=>{(hch b hb).1.1,(hch b hb).2.2,(hch b hb).1.2}) (by rw[hst];exact u) hok
    have hcD:=hc.d c C D hcC hfD;obtain⟨nw,ha,o,vs,h1,h2,h3,h4,tr⟩:=id fl2;have hxat:w6 C dx a h':={o,vs,h1,h2,h3,h4,by
     rcases tr with t|⟨T,oT,ts,t,_⟩
     ·exact(Pj.mp t).1
     ·exact(Pj.mp t).1}
    have hnc:PySem.W.notCls o=true:=by unfold PySem.W.notCls;rw[h4]
    refine wpAny_handleBy_cons (codeAny_handlers_test (gv (ju I2 (.ref a) X.xe) hg hmD ?_ hdb)) (by intro z;cases z)
    have IA:∃od,Qi h' a o C od:=by
     cases p with
     | none =>
       have hn:dx=none:=hn;exact{none,h1,h2,hnc,by rw[h3,hn];trivial}
     | some k =>
       obtain⟨d,rfl,hd⟩:=hn;obtain⟨mA,⟨od,es,ep,ed,_⟩,_⟩:=hok d _ hd;exact{some od,h1,h2,hnc,by rw[h3];exact ed}
    obtain⟨od,IA⟩:=IA;refine vL I2.kIn IA hcD.2.2.1 hcD.2.2.2 hcD.2.1 ?_;refine codeAny_handlers_suite_as (qe fl2 ?_);have I3:Inv X pins σ' (upd H' a (.ext (w6 C dx a))) {s' with heap:=h'}:=sg I2 hex ha nw.1 ⟨o,vs,h1,h4⟩ hall {hxat,⟨o,h1⟩,λg1 g2 ⟨o,vs,k1,k2⟩ kk=>{o,vs,kk o k1,k2}}
    have xa:Ext μ' H' μ' (upd H' a (.ext (w6 C dx a))):=Ext.alloc hM1 ha;have rp:Rep fa X.K μ' (upd H' a (.ext (w6 C dx a))) y (.ref a):=by
     rw[ey];refine{a,C,dx,rfl,hcC,bW,?_};cases p with
     |none=>exact hn
     |some k=>exact let⟨d,z1,z2⟩:=hn;{d,z1,by rw[aN (bc z2 ha)];exact z2}
    refine tY I3 hN hi (.inl hl) (v:=.ref a) rfl (λs4 I4=>?_) (.inr hl);have q:ai ((gH (ρ1.set i (some y)) M1).bind (Bc i)) (ni fa X μ H D'):=q;obtain⟨fl3,M2,e3,q3⟩:=aV q;refine wpAny_mono (hh (.ref a) _ pins s4 (σ'.set i (some (.ref a))) (upd H' a (.ext (w6 C dx a))) {nx:=λσ2 H2=>D'.nx (σ2.set i none) H2,rt:=D'.rt} (ju I4 (.ref a) _) {μ',_,M1,(hE1.ext xa).set rp,hM1.alloc ha,?_}) (λf s5 z=>?_) λ_ _ z=>z
    ·rw[e3];cases fl3 with
     |next ρ2=>exact λσ2 H2 μ2 x2 hE2 hM2=>q3 (σ2.set i none) H2 μ2 ((ye.trans xa).trans x2) (hE2.unset i) hM2
     |ret d=>exact bg.ext q3 (ye.trans xa)
     |exc=>exact q3.elim
    ·dsimp only;cases f with
     | next =>
       obtain⟨σ5,H5,I5,z⟩:=z;exact wK (hJ I2.ok.hd I5) hN hi hl λs6 I6=>{_,H5,I6,z}
     | ret u =>
       obtain⟨v,σ5,H5,I5,r5,z⟩:=z;exact wK (hJ I2.ok.hd I5) hN hi hl λs6 I6=>{v,_,H5,I6,r5,z}
     |brk=>obtain⟨_,_,_,z⟩:=z;exact z.elim
     |cont=>obtain⟨_,_,_,z⟩:=z;exact z.elim
 ·cases f with
  |next=>obtain⟨σ5,H5,I5,z⟩:=z;exact wpAny_execs_nil {σ5,H5,d7 I5,z}
  |ret u=>obtain⟨v,σ5,H5,I5,r5,z⟩:=z;exact{v,σ5,H5,d7 I5,r5,z}
  |brk=>obtain⟨σ5,H5,I5,z⟩:=z;exact{σ5,H5,d7 I5,z}
  |cont=>obtain⟨σ5,H5,I5,z⟩:=z;exact{σ5,H5,d7 I5,z}
end
noncomputable def Hf (K:OA)(cl:List (Nat×Addr))(D:Addr):Bool:=PySem.W.mroIn K D (.type "BaseException")==some true&&PySem.W.typeIn K (.ref D)==some (.type "type") &&
 cl.all λq=>lN K q.2&&PySem.W.mroIn K q.2 (.type "ValueError")==some true&&PySem.W.isIn K (.ref q.2) q.2&&PySem.W.isIn K (.ref q.2) D&&PySem.W.mroIn K q.2 (.ref D)==some true&&cl.all λr=>r.1==q.1||PySem.W.kin_not K q.2 r.2
noncomputable def wO (l cl:List (Nat×Addr))(D:Addr):Fa:=λi=>if i<999 then l.lookup i else if i=999 then some D else cl.lookup (i-1000)
def lookup_mem:∀{l:List (Nat×Addr)}{c:Nat}{C:Addr},l.lookup c=some C->(c,C)∈l
 |[],_,_,h=>by cases h
 | (a, b) :: r, c, C, h => by
   rw[Pn] at h;split at h
   ·next e=>cases h;rw[eq_of_beq e];exact OT
   ·exact ON _ (lookup_mem h)
def jU {l cl:List (Nat×Addr)}{D:Addr}{c:Nat}{C:Addr}(h:wO l cl D (fz c)=some C):(c,C)∈cl:=by
 unfold wO fz at h;rw[if_neg `a,if_neg `a,Nat.add_sub_cancel_left] at h
 exact lookup_mem h
def He {K:OA}{l cl:List (Nat×Addr)}{D:Addr}(h:Hf K cl D=true):ng (wO l cl D) K:=by
 unfold Hf at h;simp only[OB,beq_iff_eq,OJ,Qv] at h;obtain⟨⟨h1,h2⟩,h3⟩:=h;refine{λc C e=>?_,λc C D' e e'=>?_,λc C c' C' e e' n=>?_}
 ·obtain⟨⟨⟨⟨⟨a1,a2⟩,a3⟩,a4⟩,a5⟩,a6⟩:=h3 _ (jU e);exact⟨a1,a2,a3⟩
 ·obtain⟨⟨⟨⟨⟨a1,a2⟩,a3⟩,a4⟩,a5⟩,a6⟩:=h3 _ (jU e);have e':some D=some D':=e';cases e';exact⟨a4,a5,h1,h2⟩
 ·obtain⟨⟨⟨⟨⟨a1,a2⟩,a3⟩,a4⟩,a5⟩,a6⟩:=h3 _ (jU e);exact(a6 _ (jU e')).elim (λz=>absurd z n) id
end LD
namespace LD
open PySem PySem.Spec PyProof.Rows L2 PySem.SeqAt
noncomputable def pB (M:Mem)(x:D):Option (List Bool):=(fZ M x).bind boolsOf
noncomputable def yk (a:GE):GE:=λZ M=>(a Z M).bind λx M=>match pB M x with
 |some bs=>.ok (.int (bs.count true)) M
 |none=>.bad
noncomputable def yj (a:GE):GE:=λZ M=>(a Z M).bind λx M=>match pB M x with
 |some bs=>if true∈bs then .ok (.int (bs.idxOf true)) M else .bad
 |none=>.bad
def pX:Oz->Bool
 |.bool b=>b
 |_=>false
section
variable{fa:Fa}{X:Cx}
def eqT {A:Pu}{s:OD}{us:List Oz}{bs:List Bool}(h:us=bs.map Value.bool):∀y,y∈us.toArray->EqAt A s y (.bool true) (pX y):=λy hy=>by
 have hy:y∈us:=by simpa using hy
 rw[h] at hy;obtain⟨b,_,rfl⟩:=Pt.mp hy;have e:=EqAt.bool_bool (A:=A) (s:=s) b true;have q:(b==true)=pX (.bool b):=by cases b<;>rfl
 rw[<- q];exact e
def N2 {bs:List Bool}:(bs.map Value.bool).countP pX=bs.count true:=by
 induction bs with
 |nil=>rfl
 |cons b r ih=>cases b<;>simp[List.countP_cons,pX,ih]
def sA:∀{us:List Oz}{bs:List Bool},PyProof.Rows.LSm.BoolsAre us bs->us=bs.map Value.bool:=by
 intro us bs h;induction h with
 |nil=>rfl
 |cons _ _ ih=>simp[ih]
noncomputable def Nr (fa:Fa)(K:OA)(x:V)(vs:List V)(H:Hp)(Q:VK):Prop:=∃μ ds bs p ws,x=.ref p/\vs=[.bl true]/\c9 K H p ws/\aR fa K μ H ds ws/\boolsOf ds=some bs/\Q (.int (bs.count true)) H
noncomputable def K9 (fa:Fa)(K:OA)(x:V)(vs:List V)(H:Hp)(Q:VK):Prop:=∃μ ds bs p ws,x=.ref p/\vs=[.bl true]/\c9 K H p ws/\aR fa K μ H ds ws/\boolsOf ds=some bs/\true∈bs/\Q (.int (bs.idxOf true)) H
def Js:Ks X "list.count" (Nr fa X.K):=by
 intro pins s σ H x vs v us Q I rx rv h;obtain⟨μ,ds,bs,p,ws,rfl,rfl,hq,rl,eb,q⟩:=h;cases rx;obtain⟨u,rfl,ru⟩:=vals1 rv;obtain rfl:u=Value.bool true:=ru;obtain⟨its,rv,⟨o,n,e1,e2,e3,e4⟩,hz⟩:=I.list hq;have hb:=sA (mG eb rl rv);obtain⟨oc,od,oda,osl⟩:=o;obtain rfl:oc=.type "list":=e2;obtain rfl:oda=.seq its.toArray n:=e4;refine call_meets PySem.F.slot_list_count {_,e1,rfl} PySem.F.entry_list_count (PySem.F.args_list_count_2 _ _) (PySem.SeqAt.list_countAt p its.toArray n od osl (.bool true) pX) {e1,eqT hb,?_};have hcnt:its.toArray.toList.countP pX=bs.count true:=by rw[hb,List.toList_toArray];exact N2
 exact{.int (bs.count true),H,I.tok _,{s.toks,by rw[hcnt]},q}
def Jr:Ks X "list.index" (K9 fa X.K):=by
 intro pins s σ H x vs v us Q I rx rv h;obtain⟨μ,ds,bs,p,ws,rfl,rfl,hq,rl,eb,hm,q⟩:=h;cases rx;obtain⟨u,rfl,ru⟩:=vals1 rv;obtain rfl:u=Value.bool true:=ru;obtain⟨its,rv,⟨o,n,e1,e2,e3,e4⟩,hz⟩:=I.list hq;have hb:=sA (mG eb rl rv);obtain⟨oc,od,oda,osl⟩:=o;obtain rfl:oc=.type "list":=e2;obtain rfl:oda=.seq its.toArray n:=e4;have hl:bs.idxOf true<bs.length:=List.idxOf_lt_length_of_mem hm;have hl2:its.length=bs.length:=by rw[hb];simp
 have hz2:its.length<=sizeLine:=by rw[<- rv.length];exact hz
 have hs:((bs.idxOf true:Nat):Int)<2^63-1:=by
  have:sizeLine<2^62:=`d
  omega
 have at':∀m (hm:m<its.toArray.size),pX its.toArray[m]=bs[m]'(by simp at hm;omega):=λm hm=>by subst hb;simp[pX]
 refine call_meets PySem.F.slot_list_index {_,e1,rfl} PySem.F.entry_list_index (PySem.F.args_list_index_2 _ _) (PySem.SeqAt.list_indexAt p its.toArray n od osl (.bool true) pX (bs.idxOf true) `o hs (by rw[at'];simp) λm hm h=>?_) {e1,eqT hb,?_}
 ·rw[at'];have:=List.not_of_lt_findIdx (p:=(·==true)) (xs:=bs) (i:=m) h;simpa using this
 ·exact{.int (bs.idxOf true),H,I.tok _,{_,rfl},q}
variable{a:Expr}{ga:GE}{apos cpos kp:Pos}{j:Nat}
def Ie (ha:DE fa X a ga)(hbase:attributeBase a "count" X.env (eval a X.env)=eval a X.env)(hline:(apos.endLine==cpos.line)=true):DE fa X (.Call (.Attribute a "count" apos) [.Constant (.bool true) j kp] [] cpos) (yk ga):=
 bG (xB PySem.F.plainAttrs_list PySem.F.slot_list_count PySem.F.type_list_count (Js (fa:=fa)) ha (bX xC eB `r) hbase `r hline `r `r) λσ H Q ⟨μ,Z,M,hE,hM,h⟩=>t1 hE hM h λx M1 v H1 μ1 x1 hE1 hM1 r1 h1=>by
  cases e3:pB M1 x with
  |none=>rw[e3] at h1;exact h1.elim
  |some bs=>
   rw[e3] at h1;obtain⟨ds,e,e2⟩:=PB.mp e3;obtain⟨p,ws,rfl,hq,rl⟩:=bS hM1 r1 e;exact{.inl ⟨rfl,ws,hq⟩,μ1,ds,bs,p,ws,rfl,rfl,hq,rl,e2,ba (v:=.int _) hM1 (bg.ext h1 x1) rfl}
def H9 (ha:DE fa X a ga)(hbase:attributeBase a "index" X.env (eval a X.env)=eval a X.env)(hline:(apos.endLine==cpos.line)=true):DE fa X (.Call (.Attribute a "index" apos) [.Constant (.bool true) j kp] [] cpos) (yj ga):=
 bG (xB PySem.F.plainAttrs_list PySem.F.slot_list_index PySem.F.type_list_index (Jr (fa:=fa)) ha (bX xC eB `r) hbase `r hline `r `r) λσ H Q ⟨μ,Z,M,hE,hM,h⟩=>t1 hE hM h λx M1 v H1 μ1 x1 hE1 hM1 r1 h1=>by
  cases e3:pB M1 x with
  |none=>rw[e3] at h1;exact h1.elim
  |some bs=>
   rw[e3] at h1;obtain⟨ds,e,e2⟩:=PB.mp e3;have h1:ai (if true∈bs then .ok (.int (bs.idxOf true)) M1 else .bad) (bg fa X.K μ H Q):=h1;split at h1
   ·next hm=>
    obtain⟨p,ws,rfl,hq,rl⟩:=bS hM1 r1 e;exact{.inl ⟨rfl,ws,hq⟩,μ1,ds,bs,p,ws,rfl,rfl,hq,rl,e2,hm,ba (v:=.int _) hM1 (bg.ext h1 x1) rfl}
   ·exact h1.elim
end
end LD
namespace LD
open PySem PySem.Spec PySem.Calls PyProof.Rows
section
variable{prog:OX}{w:O6}{A:Pu}{E:Oz->OD->Prop}{h:Heap}{g:Array GenState}{d:Drawn}{t:Nat}{os:Py}
variable{nm q:Str}{C N:Addr}{bs bm:List Oz}{hdct:Bool}{sn:List Str}{sub:List Oz}{ab:Bool}{col:Option Bool}{dd:Option Addr}{k0 k1 k2 k3 k5:Option Oz}
def CK {e:Addr}{oe:Obj}{vs:Array Oz}{u:Oz}{Q:Oz->OD->Prop}(hC:h.get? C=some (excClassObj nm q C N bs bm hdct sn sub ab col dd k0 k1 k2 k3 k5 "ValueError.__new__"))(T:OwnTail h mZ bm)
 (he:h.get? e=some oe) (hcls:oe.cls=.ref C) (hd:oe.data=.fields vs) {t0:Addr} (h0:vs[0]?=some (.ref t0))
 (hq:∀h' tp,(∀b o,b≠e->h.get? b=some o->h'.get? b=some o)->h'.get? e=some (oe.mapFields (·.setIfInBounds 0 (.ref tp)))->Q .none ⟨h',g,d,t,os⟩) :
 wpAny (model prog w) A (call (.builtin "ValueError.__init__") [.ref e,u]) Q E ⟨h,g,d,t,os⟩:=by
 refine wpAny_call (codeAny_call_builtin PySem.F.excBase_ValueError.init.plain PySem.F.excBase_ValueError.initEntry (wpAny_check_init_subT PySem.F.excBase_ValueError T hC he hcls ?_));wp_walk
 have he2:(h.push {cls:=.type "tuple",data:=.seq #[u]}).get? e=some oe:=OE _ he;rw[hd];refine tqb ?_;rw[h0];refine tqb ?_;refine tqa (wpAny_setField he2 hd (Pj.mp h0).1 ?_);wp_walk
 refine hq _ h.objs.size (λb o hb e'=>?_) ?_
 ·rw[PH _ _ (PZ hb)];exact OE _ e'
 ·exact Qd _ he2 (QB (P7 hd _))
end
def lX:List Oz->Bool
 |.ref _::r=>lX r
 |l=>l==mZ
def uj (self:Oz):∀{l:List Oz},lX l=true->refuseLoop self "__setattr__" l=pure ()
 |[],e=>absurd e `d
 | a :: r, e => by
   cases a with
   |ref c=>rw[refuseLoop_ref];exact uj self e
   | _ =>
     have q:=eq_of_beq (show(_::r==mZ)=true from e);rw[q];exact PySem.F.store_ValueError.passes self
noncomputable def sW (K:OA)(C:Addr):Bool:=(PySem.W.clsIn K C).any (λcd=>lX cd.mro)&&PySem.W.mroIn K C (.type "object")==some true
def Lh {prog:OX}{w:O6}{A:Pu}{R:Result->OD->Prop}{s:OD}{K:OA}{x C:Addr}{ox:Obj}{od:Option Obj}{name:Str}{tk:Tok}{v:Oz}(X:K.In s.heap)(J:Qi s.heap x ox C od)(hp:sW K C=true)(ht:PySem.W.takerIn K C name=some none)
 (h:∀b,wpAny (model prog w) A.in1 (Builtin.ObjectAttr.storeInOwnDict (.ref x) (.ref C) (.str name tk) name v b) (λfin s'=>match fin with|.done f=>R (.ok f) s'|.again c'=>c'.quiet=true/\codeAny (model prog w) A c' R s') (λe s'=>R (.error e) s') s) :
 codeAny (model prog w) A (.call (.builtin "object.__setattr__") {[.ref x,.str name tk,v],[]}) R s:=by
 unfold sW at hp;rw[OB,beq_iff_eq] at hp;obtain⟨cd,hc,ho⟩:=PySem.W.any_some hp.1;have G:=PySem.F.store_ValueError;have ho:lX cd.mro=true:=ho;have e0:QJ (model prog w) s.heap (isInstance (.ref x) (.type "object")) true:=J.type.andThen (PySem.W.looks_mroIn X hp.2);obtain⟨at',ha,hr⟩:=PB.mp ht;have e1:QJ (model prog w) s.heap (mroOf (.ref C)) cd.mro:=(PySem.W.looks_clsIn X hc).andThen .now;have e2:QJ (model prog w) s.heap (Builtin.ObjectAttr.storeTaker? at') none:=by
  cases at' with
  |none=>exact .now
  | some a =>
    obtain⟨b,hb,hn⟩:=OU.mp hr;cases b with
    |true=>cases hn
    |false=>exact(PySem.W.looks_takesIn X hb).andThen .now
 refine codeAny_call_builtin PySem.F.store_object.slot.plain G.entry (@PySem.W.check_slot (model prog w) _ _ s "object.__setattr__" "object" "__setattr__" (.ref x) [.str name tk,v] [] _ G.kind G.split e0 (G.args (.ref x) (.str name tk) v) ?_);rw[PySem.W.osa_eq];refine tqa ?_;rw[refuse_eq];refine tqa (J.type.here (tqa (e1.here ?_)));rw[uj _ ho];exact tqb (tqa (J.type.here (tqa ((PySem.W.looks_findIn X ha).here (tqa (e2.here (h _)))))))
def Gu {prog:OX}{w:O6}{A:Pu}{E:Oz->OD->Prop}{s:OD}{K:OA}{x C:Addr}{ox:Obj}{name:Str}{v:Oz}{vs:Array Oz}{Q:Unit->OD->Prop}(X:K.In s.heap)(J:Qi s.heap x ox C none)
 (hs:PySem.W.findIn K (.ref C) "__setattr__"=some (some (.builtin "object.__setattr__"))) (hp:sW K C=true) (ht:PySem.W.takerIn K C name=some none) (hh:PySem.W.hasDictIn K C=true) (hd:ox.data=.fields vs)
 (h:∀h' d,s.heap.objs.size<=d->h'.Ns1 d (λy=>if y=name then some v else none)->h'.get? x=some {ox with dict:=some d}->(∀b o,b≠x->s.heap.get? b=some o->h'.get? b=some o)->Q () {s with heap:=h',toks:=s.toks+2}) :
 wpAny (model prog w) A (setAttr (.ref x) name v) Q E s:=by
 refine PySem.W.set_plain X J hs (Lh (s:={s with toks:=s.toks+1}) X J hp ht λb=>?_)
 obtain⟨cd,hc,hd'⟩:=PySem.W.any_some hh;have hx:=J.at_;obtain⟨oc,odi,oda,osl⟩:=ox;obtain rfl:oc=.ref C:=J.cls;obtain rfl:oda=.fields vs:=hd;have hdi:odi=none:=by
  have:=J.dict;cases odi with
  |none=>rfl
  |some d=>exact this.elim
 subst hdi;refine tqa (tqb (tqa (tqa (wpAny_loadPart hx (tqa (PySem.W.Looks.here (s:={s with toks:=s.toks+1}) (PySem.W.looks_clsIn X hc) ?_))))))
 rw[hd'];show wpAny _ _ (alloc {cls:=.type "dict",data:=.dict #[]} >>= λd=>update x (λo=>{o with dict:=some d}) >>= λ_=>(pure (some d):Sem (Option Addr))) _ _ _
 refine tqa (wpAny_alloc ?_);have hx2:(s.heap.push {cls:=.type "dict",data:=.dict #[]}).get? x=some {.ref C,none,.fields vs,osl}:=OE _ hx;refine tqa (wpAny_update hx2 (tqb ?_));have hdx:s.heap.objs.size≠x:=P4 (OQ hx);have e1:(s.heap.push {cls:=.type "dict",data:=.dict #[]}).get? s.heap.objs.size=some {cls:=.type "dict",data:=.dict #[]}:=OZ s.heap rfl;have e2:((s.heap.push {cls:=.type "dict",data:=.dict #[]}).update x (λo=>{o with dict:=some s.heap.objs.size})).get? s.heap.objs.size=some {cls:=.type "dict",data:=.dict #[]}:=(PH _ _ (PZ hdx)).trans e1
 have e3:((s.heap.push {cls:=.type "dict",data:=.dict #[]}).update x (λo=>{o with dict:=some s.heap.objs.size})).Ns s.heap.objs.size (λ_=>none):={_,#[],_,e2,rfl,(λe he=>absurd he `s),λ_=>rfl}
 have e4:=Qd (λo=>{o with dict:=some s.heap.objs.size}) hx2 rfl
 refine tqa (tqb (tqa ?_));refine wpAny_nsSet1 (Heap.Ns1.of_empty e3) λh' hn2 hs2=>?_;obtain⟨oD,esD,epD,hoD,hdD,hcD⟩:=hn2.count (PySem.Within.cons name v PySem.Within.nil);refine tqa (wpAny_lookBehind hoD (by rw[hdD];exact pastItsLine_dict (OI hcD (by show 1<=sizeLine+1;omega))) ?_)
 refine tqb (h _ s.heap.objs.size (OF _) hn2 ((hs2.2 _ (PZ hdx)).trans e4) λb o hb e=>?_);rw[hs2.2 b (PK (OQ e)),PH _ _ (PZ hb)];exact OE _ e
end LD
namespace LD
open PySem PySem.Spec PyProof.Rows L2
noncomputable def fit (z:Str)(i:Int)(y:Str):Prop:=i.natAbs.log2<1920/\(z++(toString i:Str)).length<=sizeLine/\(z++(toString i:Str)++y).length<=sizeLine
section
variable{X:Cx}{a:Expr}{ta:TE}{pos p1 p2 p3:Pos}{j j2:Nat}{z y:Str}
noncomputable def Mm (z y:Str)(ta:TE):TE:=λσ H Q=>z.length<=sizeLine/\ta σ H λv H1=>∃i,v=.int i/\fit z i y/\Q (.str (z++(toString i:Str)++y)) H1
def sL (z:Str):Str.empty++z=z:=by
 cases z with
 |mk c=>show Str.mk (#[]++c)=_;simp
def yx (z:Str):z++Str.empty=z:=by
 cases z with
 |mk c=>show Str.mk (c++#[])=_;simp
def Lf (ha:PE X a ta):PE X (.JoinedStr [.Constant (.str z) j p1,.FormattedValue a (-1) none p2,.Constant (.str y) j2 p3] pos) (Mm z y ta):=by
 intro pins s σ H Q I ⟨hz,h⟩;refine JoinedStr_many (joinParts_cons (Calls.Constant_str ?_));show(Str.empty++z).length<=sizeLine/\_;rw[sL];refine{hz,joinParts_cons (FormattedValue_plain (a9 (ha pins _ σ H _ (I.tok _) h) λu s1 ⟨v,H1,I1,r1,i,ev,⟨f1,f2,f3⟩,q⟩=>?_))};subst ev;obtain⟨t,rfl⟩:=r1;refine formatField_int_small f1 {f2,joinParts_cons (Calls.Constant_str {f3,joinParts_nil ?_ f3})};exact{.str _,H1,I1.tok _,{_,rfl},q}
def Lg (ha:PE X a ta):PE X (.JoinedStr [.Constant (.str z) j p1,.FormattedValue a (-1) none p2] pos) (Mm z Str.empty ta):=by
 intro pins s σ H Q I ⟨hz,h⟩;refine JoinedStr_many (joinParts_cons (Calls.Constant_str ?_));show(Str.empty++z).length<=sizeLine/\_;rw[sL];refine{hz,joinParts_cons (FormattedValue_plain (a9 (ha pins _ σ H _ (I.tok _) h) λu s1 ⟨v,H1,I1,r1,i,ev,⟨f1,f2,f3⟩,q⟩=>?_))};subst ev;obtain⟨t,rfl⟩:=r1;refine formatField_int_small f1 {f2,joinParts_nil ?_ f2};have e:z++(toString i:Str)++Str.empty=z++(toString i:Str):=by
  exact yx _
 rw[e] at q;exact{.str _,H1,I1.tok _,{_,rfl},q}
end
noncomputable def fB (C:Addr)(dx:Option Addr)(a:Addr)(h:Heap):Prop:=∃o vs t0,h.get? a=some o/\o.cls=.ref C/\o.dict=dx/\o.data=.fields vs/\vs[0]?=some (.ref t0)/\vs[1]?=some .none
noncomputable def lH (K:OA)(C:Addr)(fI:Addr):Bool:=HJ K C λcd C' bm n=>C'==C&&n=="ValueError.__new__"&&!cd.hasDel&&PySem.W.tailIn K mZ bm&&PySem.W.nsOkIn K cd.ns&&PySem.W.nsIn K cd.ns "__init__"==some (some (.ref fI))
def xG {K:OA}{h:Heap}{N:Addr}{x:Str}{v:Oz}{mg:Str->Option Oz}(X:K.In h)(G:h.Ns N mg)(e:PySem.W.nsIn K N x=some (some v)):mg x=some v:=by
 obtain⟨o,es,ep,ho,hd,_,hf⟩:=G;unfold PySem.W.nsIn at e;split at e
 ·rename_i c d es' n' sl q;have:=X _ _ q;rw[ho] at this;cases this;cases hd;split at e
  ·rename_i en he;cases e;rw[<- hf];unfold nsFind findBy;rw[<- Array.find?_toList,he];rfl
  ·split at e<;>cases e
 ·cases e
def mV {K:OA}{h:Heap}{C fI:Addr}(X:K.In h)(q:lH K C fI=true) :
 ∃bm N nm q bs hdct sn sub ab col dd k0 k1 k2 k3 k5 mN,h.get? C=some (excClassObj nm q C N bs bm hdct sn sub ab col dd k0 k1 k2 k3 k5 "ValueError.__new__")/\h.Ns N mN/\mN "__init__"=some (.ref fI)/\OwnTail h mZ bm:=by
 obtain⟨bm,ns,nm,qn,bs,hd,sn,sub,ab,col,dd,k0,k1,k2,k3,k5,dl,n,C',q,ho⟩:=zz X q;simp only[OB,beq_iff_eq,Qx] at q;obtain⟨⟨⟨⟨⟨rfl,rfl⟩,rfl⟩,ht⟩,hok⟩,hni⟩:=q;exact{bm,ns,nm,qn,bs,hd,sn,sub,ab,col,dd,k0,k1,k2,k3,k5,_,ho,.of_isNs (PySem.W.isNs_of_in X hok),xG X (.of_isNs (PySem.W.isNs_of_in X hok)) hni,PySem.W.tail_of_in X ht}
def Bl {H:Hp}{a:Addr}{o:HO}(h:H a=some o):upd H a o=H:=by
 funext b
 unfold upd;split
 ·next e=>rw[e,h]
 ·rfl
section
variable{X:Cx}{a b:Expr}{ta tb:TE}{apos cpos p1 pos:Pos}{x:Str}{D:Addr}
noncomputable def Nd (K:OA)(ta tb:TE):TE:=λσ H Q=>ta σ H λv H1=>tb σ H1 λu H2=>∃e C fI,v=.ref e/\H2 e=some (.ext (fB C none e))/\lH K C fI=true/\Q .non H2
def qo {P:OX}{w:O6}{H:Hp}{h:Heap}{C e:Addr}{dx:Option Addr}(x:fB C dx e h):dg P w H h e (.ext (fB C dx e)):=by
 refine{x,let{o,_,_,e,_}:=x;⟨o,e⟩,λg1 g2 ⟨o,vs,t0,k1,k2⟩ kk=>{o,vs,t0,kk o k1,k2}}
def IM {pl:Sem Bool}(hD:X.mg x=some (.ref D))(hg:Gl X x)(h1:PySem.W.readsIn X.K D (.type "type")=true)(h2:PySem.W.findCls X.K (.ref D) (.type "type") "__init__"=some (.val (.builtin "ValueError.__init__")))
 (h3:PySem.W.specialIn X.K (.ref D) "__getattribute__"=some (some (.builtin "type.__getattribute__"))) (ha:PE X a ta) (hb:PE X b tb) (he:notStar a=true) (he2:notStar b=true) (hdb:(x==("__debug__":Str))=false)
 (ht:eval (.Call (.Attribute (.Name x p1) "__init__" apos) [a,b] [] cpos) X.env=(do
  let ov <- eval (.Name x p1) X.env
  standAt apos.atName
  let(f,first) <- holding [ov] (getMethod ov "__init__" pl)
  callWith cpos f first (backTo cpos (starEach [a,b] X.env)) (backToKw cpos (keywordEach [] X.env)))) :
 PE X (.Call (.Attribute (.Name x p1) "__init__" apos) [a,b] [] cpos) (Nd X.K ta tb):=by
 intro pins s σ H Q I h;refine PySem.W.methodCall_KW (pl:=pl) (gv I hg hD ?_ hdb) ht;refine PySem.W.method_cls I.kIn h3 (PySem.W.cls_value I.kIn h1 h2 rfl ?_);refine Calls.callWith_builtin (dR (es:=[a,b]) (by simp[he,he2])) ?_
 have ar:=a9 ((bX ha (bX hb eB (bK he2)) (bK he)) cpos pins {s with toks:=s.toks+1} σ H (λvs H2=>match vs with|[v,u]=>∃e C fI,v=.ref e/\H2 e=some (.ext (fB C none e))/\lH X.K C fI=true/\Q .non H2|_=>False) (I.tok _) h) (Q':=λus s2=>wpAny (model X.prog X.w) X.A (call (.builtin "ValueError.__init__") ([]++us) []) (EP X pins σ Q) X.xe s2) λus s1 ⟨vs,H1,I1,r,hq⟩=>by
  match vs,r,hq with
  |[],_,hq=>exact hq.elim
  |[_],_,hq=>exact hq.elim
  |_::_::_::_,_,hq=>exact hq.elim
  | [v, u], r, ⟨e, C, fI, ev, hH, hx, q⟩ =>
    subst ev;obtain⟨w1,w2,rfl,r1,r2⟩:=vals2 r;obtain rfl:w1=Value.ref e:=r1;obtain⟨⟨o,vs,t0,k1,k2,k3,k4,k5,k6⟩,_,_⟩:=I1.hok e _ hH;obtain⟨bm,N,nm,qq,bs,hdct,sn,sub,ab,col,dd,c0,c1,c2,c3,c5,mN,hC,hN,hni,T⟩:=mV I1.kIn hx;obtain⟨hp,gg,dr,tk,os⟩:=s1;refine CK hC T k1 k2 k4 k5 λh' tp kk ke=>?_;have nw:fB C none e h':={_,_,tp,ke,by rw[Obj.cls_mapFields];exact k2,by rw[mW];exact k3,P7 k4 _,by simp[(Pj.mp k5).1],by rw[Array.getElem?_setIfInBounds_ne `d];exact k6}
    have I2:=I1.write (x:=e) (e:=e) (o:=.ext (fB C none e)) (h':=h') (t':=tk) (by rw[hH];exact True.intro) (.inl rfl) (λb u hb z=>kk b u hb z) {_,ke} (qo nw)
    rw[Bl hH] at I2;exact{.non,H1,I2,rfl,q}
 rw[bK he] at ar ⊢;exact PySem.Calls.evalArgs_plain ar
end
noncomputable def setIn (K:OA)(C:Addr)(fld:Str):Bool:=PySem.W.findIn K (.ref C) "__setattr__"==some (some (.builtin "object.__setattr__"))&&sW K C&&PySem.W.takerIn K C fld==some none&&PySem.W.hasDictIn K C
section
variable{X:Cx}{o value:Expr}{to tv:TE}{p' pos:Pos}{fld:Str}
noncomputable def KH (K:OA)(tv to:TE)(fld:Str):TS:=λD σ H=>tv σ H λy H1=>to σ H1 λx H2=>∃e C i,x=.ref e/\y=.int i/\H2 e=some (.ext (fB C none e))/\setIn K C fld=true/\∀d,H2 d=none->d≠e->D.nx σ (upd (upd H2 d (.xd [(fld,.int i)])) e (.ext (fB C (some d) e)))
def FP (ho:PE X o to)(hv:PE X value tv)(hs:swapsWith value (some (.Attribute o fld p')) pos.line X.env=pure false):PS X (.Assign [.Attribute o fld p'] value pos) (KH X.K tv to fld):=by
 intro pins s σ H D I h;refine plainObj_wpAny_Assign_Attribute (a9 (hv pins s σ H _ I h) λu s1 ⟨y,H1,I1,ry,q⟩=>a9 (ho pins s1 σ H1 _ I1 q) λov s2 ⟨x,H2,I2,rx,e,C,i,ex,ey,hH,hset,q2⟩=>?_) hs;subst ex ey;obtain rfl:ov=Value.ref e:=rx;obtain⟨t,rfl⟩:=ry;simp only[setIn,OB,beq_iff_eq] at hset;obtain⟨⟨⟨g1,g2⟩,g3⟩,g4⟩:=hset;obtain⟨⟨ob,vs,t0,k1,k2,k3,k4,k5,k6⟩,_,_⟩:=I2.hok e _ hH;have IA:Qi s2.heap e ob C none:={k1,k2,by unfold PySem.W.notCls;rw[k4],by rw[k3];trivial}
 refine Gu I2.kIn IA g1 g2 g3 g4 k4 λh' d hd hns hx' kk=>?_;have hd0:H2 d=none:=I2.hok.fresh hd;have hde:d≠e:=λz=>by rw[z,hH] at hd0;cases hd0
 have lt:∀b o,s2.heap.get? b=some o->b≠d:=λb o q z=>absurd (OQ q) (by rw[z];exact Nat.not_lt.mpr hd)
 have ne:∀b,H2 b=none->b≠e:=λb q z=>by rw[z,hH] at q;cases q
 have up:∀b,b≠d->b≠e->upd (upd H2 d (.xd [(fld,.int i)])) e (.ext (fB C (some d) e)) b=H2 b:=λb z1 z2=>by rw[aN z2,aN z1]
 have nd:∀b u,H2 b=some u->b≠d:=λb u q=>bc q hd0;refine{σ,_,I2.un (h':=h') (t':=s2.toks+2) (H':=upd (upd H2 d (.xd [(fld,.int i)])) e (.ext (fB C (some d) e))) {λb o q n _ _=>kk b o (ne b n) q,λb o q n _ _=>{o.slots,kk b o (ne b n) q},λb o q n _=>?_,λb o q _=>?_,λb xs q=>?_,λb o u q=>?_,λb ps q=>{#[],?_}} λb u q=>?_,q2 d hd0 hde}
 ·rw[up b (lt b o q) (ne b n)];exact n
 ·by_cases z:b=e
  ·exact{_,by rw[z];exact hx'}
  ·exact{o,kk b o z q}
 ·rw[up b (nd b _ q) (λz=>by rw[z,hH] at q;cases q)];exact q
 ·rw[up b (nd b _ q) (λz=>by rw[z,hH] at q;cases q)];exact q
 ·rw[up b (nd b _ q) (λz=>by rw[z,hH] at q;cases q)];simpa using q
 ·by_cases z:b=e
  ·subst z;rw[bW] at q;cases q;exact qo {_,vs,t0,hx',k2,rfl,k4,k5,k6}
  ·by_cases z2:b=d
   ·subst z2;rw[aN hde,bW] at q;cases q;refine{_,hns,λf=>?_};by_cases hf:f=fld
    ·subst hf;simp only[Pn,beq_self_eq_true,if_true];exact⟨t,rfl⟩
    ·rw[if_neg hf];have:([(fld,V.int i)]:List (Str×V)).lookup f=none:=by simp[Pn,PJ.mpr hf]
     rw[this];trivial
   ·rw[up b z2 z] at q;refine(I2.hok b u q).stay (λc v hc w=>kk c v ?_ w) (λc w=>?_) λc xs w=>?_
    ·rcases hc with hc|hc
     ·rw[hc];exact z
     ·intro y;rw[y,hH] at hc;cases hc
    ·rw[up c (nd c _ w) (λy=>by rw[y,hH] at w;cases w)];exact w
    ·rw[up c (nd c _ w) (λy=>by rw[y,hH] at w;cases w)];exact w
end
end LD
namespace LD
open PySem PySem.Spec PyProof.Rows
section
variable{prog:OX}{w:O6}{A:Pu}{E:Oz->OD->Prop}{h:Heap}{g:Array GenState}{d:Drawn}{t:Nat}{os:Py}
variable{nm q:Str}{C N:Addr}{bs bm:List Oz}{hdct:Bool}{sn:List Str}{sub:List Oz}{ab:Bool}{col:Option Bool}{dd:Option Addr}{k0 k1 k2 k3 k5:Option Oz}
def sO {mN:Str->Option Oz}{rest:List Oz}{fI:Addr}{oI:Obj}{Q:Fin->OD->Prop}
 (hC:h.get? C=some (excClassObj nm q C N bs bm hdct sn sub ab col dd k0 k1 k2 k3 k5 "ValueError.__new__")) (T:OwnTail h mZ bm) (hn:h.Ns N mN) (hi:mN "__init__"=some (.ref fI)) (hfI:h.get? fI=some oI) (hfc:oI.cls=.type "function")
 (hq:∀h' e,Heap.MadeExcOf h h' e (.ref C) rest->wpAny (model prog w) A (call (.ref fI) (.ref e::rest)) (λr s'=>r=.none/\Q (.done (.ret (.ref e))) s') E ⟨h',g,d,t,os⟩) (hrest:rest.length<=sizeLine) :
 wpAny (model prog w) A (Builtin.«type.__call__» {.ref C::rest,[]}) Q E ⟨h,g,d,t,os⟩:=by
 have F:=PySem.F.excBase_ValueError
 repeat (first|with_reducible refine wpAny_loadPart_at hC ?_|with_reducible refine wpAny_madeBy_exc hC ?_|wp_step)
 refine codeAny_call_builtin_code (Code.quiet_builtin _ F.quiet) (wpAny_check_new_subT F T hC ?_);refine codeAny_exc_new_subT F T hC ?_ hrest;show wpAny _ _ _ _ _ _;have kp:∀b o,h.get? b=some o->((h.push {cls:=.type "tuple",data:=.seq rest.toArray}).push {cls:=.ref C,data:=.fields #[.ref h.objs.size,.none,.none,.none,.bool false,.none]}).get? b=some o:=λb o hb=>OE _ (OE _ hb);have hC₁:=kp _ _ hC;have hfI₁:=kp _ _ hfI;have hn₁:=hn.keeps kp;have T₁:=T.keeps kp;have hget:((h.push {cls:=.type "tuple",data:=.seq rest.toArray}).push {cls:=.ref C,data:=.fields #[.ref h.objs.size,.none,.none,.none,.bool false,.none]}).get? (h.objs.size+1)=some {cls:=.ref C,data:=.fields #[.ref h.objs.size,.none,.none,.none,.bool false,.none]}:=by heap_get
 have hcC:(Value.ref C::bm).contains (.ref C)=true:=`s
 unfold isInstance
 repeat (first|with_reducible refine wpAny_loadPart_at hget ?_|(with_reducible refine wpAny_isSubtype_exc hC₁ ?_;rw[hcC])|wp_step)
 show wpAny _ _ (typeLookup (.ref C) _) _ _ _;refine wpAny_typeLookup_tail hC₁ hn₁ T₁ F.mroIs F.init.lookup ?_;rw[hi];refine tqo (tqa ?_);unfold bindSpecial;refine tqa (wpAny_typeOf (T:="function") {_,hfI₁,hfc} ?_);rw[if_pos `d]
 refine tqb (tqa (wpAny_mono (hq _ (h.objs.size+1) {kp,Qo (Nat.le_succ _),h.objs.size,hget,Qo (OF _),?_}) (λr s' hr=>?_) λ_ _ x=>x))
 ·exact OE _ (Heap.get?_push_at rfl rfl)
 ·obtain⟨rfl,hQ⟩:=hr;wp_walk
  exact hQ
def A1 {mN:Str->Option Oz}{rest:List Oz}{fI:Addr}{oI:Obj}{Q:Oz->OD->Prop}
 (hC:h.get? C=some (excClassObj nm q C N bs bm hdct sn sub ab col dd k0 k1 k2 k3 k5 "ValueError.__new__")) (T:OwnTail h mZ bm) (hn:h.Ns N mN) (hi:mN "__init__"=some (.ref fI)) (hfI:h.get? fI=some oI) (hfc:oI.cls=.type "function")
 (hq:∀h' e,Heap.MadeExcOf h h' e (.ref C) rest->wpAny (model prog w) (A.under (.builtin "type.__call__" {.ref C::rest,[]})) (call (.ref fI) (.ref e::rest)) (λr s'=>r=.none/\Q (.ref e) s') E ⟨h',g,d,t,os⟩) (hrest:rest.length<=sizeLine) :
 wpAny (model prog w) A (call (.ref C) rest) Q E ⟨h,g,d,t,os⟩:=by
 have f1:=tc_lookup;have f2:=tc_bind (.ref C);have hT:(⟨h,g,d,t,os⟩:OD).TypeIs (.ref C) "type":={_,hC,rfl};refine wpAny_call (codeAny_of_tree ?_);show wpAny _ _ (callAny (.ref C) _) _ _ _
 repeat (any_goals (first|assumption|with_reducible refine wpAny_loadPart_at hC ?_|wp_step))
 refine{rfl,?_};refine codeAny_call_builtin_at (Code.quiet_builtin _ `k) entry_typeCall (wpAny_check_type_call_sub hC (sO hC T hn hi hfI hfc (λh' e hm=>?_) hrest))
 exact hq h' e hm
end
end LD
namespace LD
open PySem PySem.Spec PyProof.Rows L2
noncomputable def ER (x m:Str)(a b:Expr)(p1 apos cpos:Pos)(env:Po):Prop:=∃pl,eval (.Call (.Attribute (.Name x p1) m apos) [a,b] [] cpos) env=(do
 let ov <- eval (.Name x p1) env
 standAt apos.atName
 let(f,first) <- holding [ov] (getMethod ov m pl)
 callWith cpos f first (backTo cpos (starEach [a,b] env)) (backToKw cpos (keywordEach [] env)))
noncomputable def Mp (C:Addr)(fld:Str):Sp:=λvs H Q _=>∃e i,vs=[.ref e,.int i]/\H e=some (.ext (fB C none e))/\i.natAbs<2^64/\∀d,H d=none->d≠e->Q .non (upd (upd H d (.xd [(fld,.int i)])) e (.ext (fB C (some d) e)))
def len_app (a b:Str):(a++b).length=a.length+b.length:=by
 show(Str.append a b).length=_;unfold Str.append Str.length;simp
def AI {z y:Str}{i:Int}(hz:z.length<=1000)(hy:y.length<=1000)(hi:i.natAbs<2^64):fit z i y:=by
 have h1:i.natAbs.log2<1920:=by
  by_cases h0:i.natAbs=0
  ·rw[h0];decide
  ·exact OY ((Nat.log2_lt h0).mpr hi) `a
 have h2:((toString i:Str)).length<=1921:=PyProof.Rows.int_text_len_1921 h1;have hs:sizeLine=16777216:=dN.symm;refine{h1,?_,?_}
 ·rw[len_app];omega
 ·rw[len_app,len_app];omega
section
variable{P:OX}{w:O6}{K:OA}{mg:Str->Option Oz}{base:Heap}{qual y fld z:Str}{st:Stmt}{f C D fI:Addr}{fd:QH}{p1 p2 p3 p4 p5 p6 p7 p8 p9 p10 p11 p12 p13:Pos}{j:Nat}
def JJ (F:sN K "__init__" qual st f fd)(S:ia ["self",y] ["self",y] (aW st))
 (hb:dA st=[.Expr (.Call (.Attribute (.Name "DeedError" p1) "__init__" p2) [.Name "self" p3,.JoinedStr [.Constant (.str z) j p4,.FormattedValue (.Name y p5) (-1) none p6] p7] [] p8) p9,.Assign [.Attribute (.Name "self" p10) fld p11] (.Name y p12) p13])
 (hev:∀L cd,ER "DeedError" "__init__" (.Name "self" p3) (.JoinedStr [.Constant (.str z) j p4,.FormattedValue (.Name y p5) (-1) none p6] p7) p1 p2 p8 (envOfC qual (aW st) L f cd))
 (hz:z.length<=1000) (hyd:(y==("__debug__":Str))=false) (hyc:(y==("__classdict__":Str))=false) (v0:(aW st).names.lookup ("self":Str)=some .local) (v1:(aW st).names.lookup y=some .local)
 (hg:∀L cd,(envOfC qual (aW st) L f cd).kindOf "DeedError"=some .globalImplicit) (hD:mg "DeedError"=some (.ref D)) (h1:PySem.W.readsIn K D (.type "type")=true) (h2:PySem.W.findCls K (.ref D) (.type "type") "__init__"=some (.val (.builtin "ValueError.__init__")))
 (h3:PySem.W.specialIn K (.ref D) "__getattribute__"=some (some (.builtin "type.__getattribute__"))) (hC:lH K C fI=true) (hset:setIn K C fld=true):lp P w K mg base (gJ P w) 1 f fd ["self",y] (Mp C fld):=by
 refine qR F S (λvs H Q E ⟨e,i,ev,_⟩=>by rw[ev];rfl) λcdv A outer s H vs Q E hr ⟨e,i,ev,hH,hi,q⟩=>?_
 subst ev;rw[hb];have V0:sM (fL (gJ P w) P w K mg base ["self",y] qual (aW st) f cdv A outer s H E).env.scope "self":=.inl v0;have V1:sM (fL (gJ P w) P w K mg base ["self",y] qual (aW st) f cdv A outer s H E).env.scope y:=.inl v1;have a0:∀p,PE (fL (gJ P w) P w K mg base ["self",y] qual (aW st) f cdv A outer s H E) (.Name "self" p) (BE 0):=λp=>pK (i:=0) rfl V0;have a1:∀p,PE (fL (gJ P w) P w K mg base ["self",y] qual (aW st) f cdv A outer s H E) (.Name y p) (BE 1):=λp=>pK (i:=1) rfl V1 hyd hyc;obtain⟨pl,hev⟩:=hev s.heap.objs.size cdv;refine{_,oE (nz (IM (pl:=pl) hD (hg _ _) h1 h2 h3 (a0 p3) (Lg (a1 p5)) rfl rfl rfl hev) rfl) (oE (FP (a0 p10) (a1 p12) rfl) wj),?_};refine{.ref e,rfl,OI hz (by rw[<- dN];decide),.int i,rfl,i,rfl,AI hz `d hi,e,C,fI,rfl,hH,hC,?_}
 exact{.int i,rfl,.ref e,rfl,e,C,i,rfl,rfl,hH,hset,λd hd hde=>q d hd hde}
end
noncomputable def lM (fa:Fa)(P:OX)(w:O6)(K:OA)(mg:Str->Option Oz)(base:Heap)(c:Nat)(x:Str):Prop:=
 ∃C fI fd y oI,mg x=some (.ref C)/\fa (fz c)=some C/\lH K C fI=true/\PySem.W.keepIn K (.ref C)=true/\K.lookup fI=some oI/\oI.cls=.type "function"/\Binds K fd ["self",y] []/\lp P w K mg base (gJ P w) 1 fI fd ["self",y] (Mp C (fV c))
section
variable{X:Cx}{pins:List (Addr×Obj)}{σ:L2.St}{H H0:Hp}{s:OD}{fa:Fa}
def vK {a:Addr}{φ:Heap->Prop}(I:Inv X pins σ H s)(ha:H a=some (.ext φ))(hH:∀b,b≠a->H0 b=H b)(hz:H0 a=none):Inv X pins σ H0 s:=by
 have nn:∀b,H b=none->b≠a:=λb q z=>by rw[z,ha] at q;cases q
 have no:∀b u,H b=some u->(∀φ,u≠.ext φ)->H0 b=some u:=λb u q n=>by
  rw[hH b (λz=>by rw[z,ha] at q;cases q;exact n _ rfl)];exact q
 refine{I.ok,I.os,I.bare,{I.base.keep,I.base.slot,λb o e n hx=>?_,I.base.there,λb xs e=>?_,λb o u e=>?_,λb ps e=>?_},I.loc,I.cell,?_,λx c e=>?_,λp hp'=>?_,λb u e=>?_,I.len}
 ·have q:=I.base.free b o e n hx;rw[hH b (nn b q)];exact q
 ·exact no _ _ (I.base.tups b xs e) (λ_ z=>nomatch z)
 ·exact no _ _ (I.base.frzs b o u e) (λ_ z=>nomatch z)
 ·obtain⟨m,q⟩:=I.base.tbls b ps e;exact{m,no _ _ q (λ_ z=>nomatch z)}
 ·rw[hH _ (nn _ I.free)];exact I.free
 ·rw[hH _ (nn _ (I.freeC x c e))];exact I.freeC x c e
 ·obtain⟨e,n,r⟩:=I.pin p hp';exact{e,by rw[hH _ (nn _ n)];exact n,r}
 ·by_cases hb:b=a
  ·rw[hb,hz] at e;cases e
  ·rw[hH b hb] at e;exact(I.hok b u e).stay (λc v _ q=>q) (λc q=>no _ _ q (λ_ z=>nomatch z)) λc xs q=>no _ _ q (λ_ z=>nomatch z)
def Jt {c:Nat}{x:Str}{C:Addr}{i:Int}{t:Tok}{Q:Oz->OD->Prop}(J:lM fa X.prog X.w X.K X.mg X.base c x)(hr:cv 2 X.A)(hex:X.ex=[])(I:Inv X pins σ H s)(hC:X.mg x=some (.ref C))(hi:i.natAbs<2^64)
 (h:∀e d s',fa (fz c)=some C->lj X e->H e=none->H d=none->d≠e->Inv X pins σ (upd (upd H d (.xd [(fV c,.int i)])) e (.ext (fB C (some d) e))) s'->Q (.ref e) s'):wpAny (model X.prog X.w) X.A (call (.ref C) [.int i t]) Q X.xe s:=by
 obtain⟨C',fI,fd,y,oI,m1,hf,hin,hk,hfI,hfc,hb,F⟩:=J;rw[hC] at m1;cases m1;obtain⟨bm,N,nm,q,bs,hdct,sn,sub,ab,col,dd,k0,k1,k2,k3,k5,mN,hCo,hN,hni,T⟩:=mV I.kIn hin;obtain⟨hp,g,dr,tk,os⟩:=s;refine A1 hCo T hN hni (I.kIn _ _ hfI) hfc (λh' e hm=>?_) (by rw[<- dN];exact Pk rfl)
 obtain⟨tp,ht,_,_⟩:=hm.there;obtain⟨n1,n2⟩:=l9 I hex hm.new;have I1:=I.kept (t':=tk) hm.keeps;have I2:Inv X pins σ (upd H e (.ext (fB C none e))) ⟨h',g,dr,tk,os⟩:=sg I1 hex n2 n1.1 {_,_,ht,rfl} (λp hp z=>by
  have:=(I.pin p hp).1;rw[z,hm.new] at this;cases this) (qo {_,_,tp,ht,rfl,rfl,rfl,rfl,rfl})
 have hb':=hb ⟨h',g,dr,tk,os⟩ [.ref e,.int i t] I2.kIn rfl;rw[List.append_nil] at hb';refine wpAny_call (codeAny_mono (F.run _ X.stack ⟨h',g,dr,tk,os⟩ (upd H e (.ext (fB C none e))) {[.ref e,.int i t],[]} [.ref e,.int i t] [.ref e,.int i] (λv H'=>v=.non/\∃d,H d=none/\d≠e/\H'=upd (upd H d (.xd [(fV c,.int i)])) e (.ext (fB C (some d) e))) (λ_ _ _=>False) (hr.make C [.int i t] []) (I2.env0.make C [.int i t] []) hb' (.cons rfl (.cons ⟨t,rfl⟩ .nil)) ?_) λr s' hq'=>?_)
 ·refine{e,i,rfl,bW,hi,λd hd hde=>{rfl,d,by rw[aN hde] at hd;exact hd,hde,?_}}
  funext b
  unfold upd;split
  ·rfl
  ·split
   ·rfl
   ·rfl
 ·cases r with
  | error e' =>
    obtain⟨_,_,_,_,_,_,_,_,_,_,z⟩:=hq';exact z.elim
  | ok fl =>
    cases fl with
    | ret u =>
      obtain⟨v,H',I3,rv,ev,d,hd,hde,eH⟩:=I2.after hq';subst ev eH;exact{rv,h e d s' hf n1 n2 hd hde I3}
    |next=>exact False.elim hq'
    |brk=>exact False.elim hq'
    |cont=>exact False.elim hq'
end
noncomputable def gMkI (c:Nat)(a:GE):GE:=λZ M=>(a Z M).bind λd M=>match d with
 |.int i=>if i.natAbs<2^64 then .ok (.exc c (some i)) M else .bad
 |_=>.bad
noncomputable def g8 (c:Nat)(a:GE):GS:=λZ M=>match a Z M with
 |.ok (.int i) M=>if i.natAbs<2^64 then .ok (.exc (.exc c (some i)) Z) M else .bad
 |_=>.bad
noncomputable def ki (f:Str)(a:GE):GE:=λZ M=>(a Z M).bind λd M=>match d with
 |.exc c (some i)=>if fV c=f then .ok (.int i) M else .bad
 |_=>.bad
def xy {M:Model}{A:Pu}{E:Oz->OD->Prop}{env:Po}{nm q:Str}{C N:Addr}{bs bm:List Oz}{hdct:Bool}{sn:List Str}{sub:List Oz}{ab:Bool}{col:Option Bool}{dd:Option Addr}{k0 k1 k2 k3 k5:Option Oz}{newId:String}
 {s:OD}{x:Sem Oz}{Q:Flow->OD->Prop} (hbase:bm.contains (.type "BaseException")=true) (hh:A.handled=none)
 (h:wpAny M A x (λv s₁=>∃e o vs,v=.ref e/\s₁.heap.get? C=some (excClassObj nm q C N bs bm hdct sn sub ab col dd k0 k1 k2 k3 k5 newId)/\s₁.heap.get? e=some o/\o.cls=.ref C/\o.data=.fields vs/\vs[1]?=some .none/\E (.ref e) s₁) E s) :
 wpAny M A (raiseStmt env (some x) none) Q E s:=by
 have hcB:(Value.ref C::bm).contains (.type "BaseException")=true:=by rw[List.contains_cons,hbase,Bool.or_true]
 unfold raiseStmt;refine tqa (wpAny_mono h (λv s₁ h₁=>?_) λ_ _ x=>x);obtain⟨e,⟨cl,od,da,sl⟩,vs,rfl,hC,he,hc,hd,h1,hE⟩:=h₁;obtain rfl:cl=.ref C:=hc;obtain rfl:da=.fields vs:=hd;obtain⟨hp,g,d,tk,os⟩:=s₁
 repeat (first|with_reducible refine wpAny_loadPart_at he ?_|with_reducible refine wpAny_loadPart_at hC ?_|(with_reducible refine wpAny_isSubtype_exc hC ?_;rw[hcB])|(with_reducible refine tqf he rfl h1 ?_)|wp_step)
 exact wpAny_raiseNew_none hh hE
section
variable{fa:Fa}{X:Cx}{a b:Expr}{ga gb:GE}{ta:GT}{pos p np cpos:Pos}{es:List Expr}{gs:GA}{n:Nat}{x:Str}
def CN (c:Nat){pins:List (Addr×Obj)}{σ:L2.St}{H:Hp}{s:OD}{Q:Oz->OD->Prop}(J:lM fa X.prog X.w X.K X.mg X.base c x)(hr:cv 2 X.A)(hex:X.ex=[])(hg:Gl X x)(ha:DE fa X a ga)(hdb:(x==("__debug__":Str))=false)(he:notStar a=true)(I:Inv X pins σ H s)
 (h:∃μ Z M,bt fa X.K μ H σ Z/\RelM fa X.K μ H M/\ai (ga Z M) λd M'=>∃i,d=.int i/\i.natAbs<2^64/\∀H1 μ1 e d C s',Ext μ H μ1 H1->bt fa X.K μ1 H1 σ Z->RelM fa X.K μ1 H1 M'->X.mg x=some (.ref C)->fa (fz c)=some C->lj X e->H1 e=none->H1 d=none->d≠e->Inv X pins σ (upd (upd H1 d (.xd [(fV c,.int i)])) e (.ext (fB C (some d) e))) s'->Q (.ref e) s') :
 wpAny (model X.prog X.w) X.A (eval (.Call (.Name x np) [a] [] cpos) X.env) Q X.xe s:=by
 obtain⟨μ,Z,M,hE,hM,h⟩:=h;obtain⟨C,fI,fd,y,oI,m1,hf,hin,hk,r⟩:=id J;refine wpAny_Call_Name_kw (gv I hg m1 ?_ hdb);refine PySem.W.callWith_K (h₀:=X.base) I.ok.mod.kin hk (a9 (bX ha eB (bK he) cpos pins s σ H (λvs H1=>∃μ1 M1 i,Ext μ H μ1 H1/\RelM fa X.K μ1 H1 M1/\vs=[.int i]/\i.natAbs<2^64/\∀H1 μ1 e d C s',Ext μ H μ1 H1->bt fa X.K μ1 H1 σ Z->RelM fa X.K μ1 H1 M1->X.mg x=some (.ref C)->fa (fz c)=some C->lj X e->H1 e=none->H1 d=none->d≠e->Inv X pins σ (upd (upd H1 d (.xd [(fV c,.int i)])) e (.ext (fB C (some d) e))) s'->Q (.ref e) s') I {μ,Z,M,hE,hM,aH h λd M' ⟨i,ed,hi,k⟩ v H1 μ1 x1 m1 r1=>by
  subst ed;obtain rfl:v=.int i:=r1;exact⟨μ1,M',i,x1,m1,rfl,hi,k⟩}) λus s1 ⟨vs,H1,I1,r,μ1,M1,i,x1,mm,ev,hi,k⟩=>{I1.kIn,?_}) (bK he) (dR (es:=[]) rfl)
 subst ev;cases r with
 | cons r1 r2 =>
   cases r2;obtain⟨t,rfl⟩:=r1;exact Jt J hr hex I1 m1 hi λe d s' hfa n1 n2 hd hde I3=>k H1 μ1 e d C s' x1 (hE.ext x1) mm m1 hfa n1 n2 hd hde I3
def BX (c:Nat)(J:lM fa X.prog X.w X.K X.mg X.base c x)(hr:cv 2 X.A)(hex:X.ex=[])(hg:Gl X x)(hc:X.calm=true)(ha:DE fa X a ga)(hdb:(x==("__debug__":Str))=false)(he:notStar a=true):DS fa X (.Raise (some (.Call (.Name x np) [a] [] cpos)) none pos) (g8 c ga):=by
 intro pins s σ H D' I ⟨μ,Z,M,hE,hM,h⟩;obtain⟨C,fI,fd,y,oI,m1,hf,hin,hk,r⟩:=id J;obtain⟨bm,N,nm,q,bs,hdct,sn,sub,ab,col,dd,k0,k1,k2,k3,k5,mN,hCo,hN,hni,T⟩:=mV I.ok.mod.kin hin;rw[arm_exec_Raise];simp only[evalOpt,Option.map];refine tqa (wpAny_standAt (xy (C:=C) (nm:=nm) (q:=q) (N:=N) (bs:=bs) (bm:=bm) (hdct:=hdct) (sn:=sn) (sub:=sub) (ab:=ab) (col:=col) (dd:=dd) (k0:=k0) (k1:=k1) (k2:=k2) (k3:=k3) (k5:=k5) (newId:="ValueError.__new__") (T.hasType `k) (I.ok.hd hc) (tqa (wpAny_mono (CN (Q:=λv s₁=>∃e o vs,v=.ref e/\s₁.heap.get? C=some (excClassObj nm q C N bs bm hdct sn sub ab col dd k0 k1 k2 k3 k5 "ValueError.__new__")/\s₁.heap.get? e=some o/\o.cls=.ref C/\o.data=.fields vs/\vs[1]?=some .none/\X.xe (.ref e) s₁) c J hr hex hg ha hdb he I ?_) (λv s₃ h₃=>tqa (wpAny_standAt (tqb h₃))) λ_ _ x=>x))))
 refine{μ,Z,M,hE,hM,?_};unfold g8 at h;cases eg:ga Z M with
 |err=>rw[eg] at h;exact h.elim
 |bad=>rw[eg] at h;exact h.elim
 | ok x0 M1 =>
   rw[eg] at h;cases x0 with
   | int i =>
     dsimp only at h;split at h
     ·next hi=>
      have h:XW fa X μ H (.exc c (some i)) Z M1:=h;refine{i,rfl,hi,λH1 μ1 e d C' s' x1 hE1 hM1 hm hf nw he hd hde I3=>?_};rw[m1] at hm;cases hm;have ne:upd (upd H1 d (.xd [(fV c,.int i)])) e (.ext (fB C (some d) e)) e=some (.ext (fB C (some d) e)):=bW;obtain⟨⟨o,vs,t0,g1,g2,g3,g4,g5,g6⟩,_,_⟩:=I3.hok e _ ne;have he':upd H1 d (.xd [(fV c,.int i)]) e=none:=by rw[aN (PZ hde)];exact he
      have I4:Inv X pins σ (upd H1 d (.xd [(fV c,.int i)])) s':=vK I3 ne (λb hb=>(aN hb).symm) he';have hMd:RelM fa X.K μ1 (upd H1 d (.xd [(fV c,.int i)])) M1:=hM1.alloc hd;have xd:=Ext.alloc (o:=.xd [(fV c,.int i)]) hM1 hd;exact{e,o,vs,rfl,I3.bk _ _ hCo,g1,g2,g4,g6,h pins σ _ μ1 s' e C (some d) c (some i) I4 (x1.trans xd) (hE1.ext xd) hMd rfl hf ⟨d,rfl,bW⟩ {nw,he',o,vs,g1,g2,g3,g4,.inl g6}}
     ·exact h.elim
   |_=>exact h.elim
noncomputable def w5 (fa:Fa)(K:OA)(f:Str):Prop:=∀c C,fa (fz c)=some C->fV c=f->PySem.W.hasDictIn K C=true/\PySem.W.findIn K (.ref C) f=some none
def FI (f:Str)(hc:ng fa X.K)(hf:w5 fa X.K f)(ha:DE fa X a ga)(hb:attributeBase a f X.env (eval a X.env)=eval a X.env):DE fa X (.Attribute a f pos) (ki f ga):=by
 intro pins s σ H Q I ⟨μ,Z,M,hE,hM,h⟩;obtain⟨x0,M1,eg,h⟩:=aV h;refine G3 hb (a9 (ha pins s σ H (λv H1=>∃μ1,Ext μ H μ1 H1/\RelM fa X.K μ1 H1 M1/\Rep fa X.K μ1 H1 x0 v) I {μ,Z,M,hE,hM,by rw[eg];exact λv H1 μ1 x1 m1 r1=>⟨μ1,x1,m1,r1⟩}) λu s1 ⟨v,H1,I1,rv,μ1,x1,m1,r1⟩=>?_)
 cases x0 with
 | exc c p =>
   cases p with
   |none=>exact h.elim
   | some i =>
     dsimp only at h;split at h
     ·next ef=>
      obtain⟨e,C,dx,rfl,hfa,hH,d,rfl,hd⟩:=r1;obtain rfl:u=Value.ref e:=rv;obtain⟨⟨o,vs,h1,h2,h3,h4,h5⟩,_,_⟩:=I1.hok e _ hH;obtain⟨mA,hns,hl⟩:=I1.hok d _ hd;obtain⟨od,hod,look⟩:=sd hns;have IA:Qi s1.heap e o C (some od):={h1,h2,by unfold PySem.W.notCls;rw[h4],by rw[h3];exact hod}
      have hlf:=hl f;rw[ef] at hlf;simp only[Pn,beq_self_eq_true] at hlf;obtain⟨u,hu,ru⟩:=rA.some_of hlf;obtain⟨t,rfl⟩:=ru;obtain⟨f1,f2⟩:=hf c C hfa ef;unfold getAttr;refine tqa (wpAny_mkText (wQ (s:={s1 with toks:=s1.toks+1}) (r:=.value (.int i t)) I1.kIn IA (hc.g c C hfa).1 (PySem.W.findObj_own f1 f2 rfl (by rw[look f,hu])) ?_))
      exact PySem.W.handed_on rfl {.int i,H1,I1.tok _,⟨t,rfl⟩,h (.int i) H1 μ1 x1 m1 rfl}
     ·exact h.elim
 |_=>exact h.elim
end
noncomputable def inC (s:Stmt):Stmt:=match s with
 |.ClassDef _ _ _ (b::_) _ _ _ _ _ _ _=>b
 |_=>s
noncomputable def JO (z y:Str)(a:GE):GE:=λZ M=>(a Z M).bind λd M=>match d with
 |.int i=>if z.length<=1000/\y.length<=1000/\i.natAbs<2^64 then .ok (.str (z++(toString i:Str)++y)) M else .bad
 |_=>.bad
def Nm {fa:Fa}{X:Cx}{a:Expr}{ga:GE}{pos p1 p2 p3:Pos}{j j2:Nat}{z y:Str}(ha:DE fa X a ga):DE fa X (.JoinedStr [.Constant (.str z) j p1,.FormattedValue a (-1) none p2,.Constant (.str y) j2 p3] pos) (JO z y ga):=
 bG (Lf ha) λσ H Q ⟨μ,Z,M,hE,hM,h⟩=>by
  obtain⟨x0,M1,eg,h1⟩:=aV h;cases x0 with
  | int i =>
    have h1:ai (if z.length<=1000/\y.length<=1000/\i.natAbs<2^64 then .ok (.str (z++(toString i:Str)++y)) M1 else .bad) (bg fa X.K μ H Q):=h1;split at h1
    ·next hm=>
     refine{OI hm.1 (by rw[<- dN];decide),μ,Z,M,hE,hM,?_}
     rw[eg];intro v H1 μ1 x1 m1 r1;obtain rfl:v=.int i:=r1;exact{i,rfl,AI hm.1 hm.2.1 hm.2.2,h1 (.str _) H1 μ1 x1 m1 rfl}
    ·exact h1.elim
  |_=>exact h1.elim
noncomputable def JK (K:OA)(C D fI:Addr)(fld:Str):Bool:=lH K C fI&&PySem.W.keepIn K (.ref C)&&PySem.W.readsIn K D (.type "type")&&(PySem.W.specialIn K (.ref D) "__getattribute__"==some (some (.builtin "type.__getattribute__")))&&setIn K C fld&&PySem.W.keepIn K (.ref fI)
def uV {fa:Fa}{w:O6}{K:OA}{mg:Str->Option Oz}{h:Heap}{c:Nat}{x qual y z pm:Str}{st:Stmt}{C D fI cd:Addr}{t:Tok}{p1 p2 p3 p4 p5 p6 p7 p8 p9 p10 p11 p12 p13:Pos}{j:Nat}(X:K.In h)(G:h.Ns mainGlobals mg)
 (a:PySem.W.nsIn K mainGlobals x=some (some (.ref C))) (aD:PySem.W.nsIn K mainGlobals "DeedError"=some (some (.ref D))) (hf:fa (fz c)=some C) (b:JK K C D fI (fV c)=true) (h2:PySem.W.findCls K (.ref D) (.type "type") "__init__"=some (.val (.builtin "ValueError.__init__")))
 (l:K.lookup fI=some {.type "function",none,.func (PySem.W.fnOf "__init__" qual (gx st) (dA st) (aW st) .none .none .none (.str pm t) none (.ref cd) .none),#[]}) (e:PySem.W.codeIn K (.ref cd) qual=true) (S:ia ["self",y] ["self",y] (aW st))
 (hb:dA st=[.Expr (.Call (.Attribute (.Name "DeedError" p1) "__init__" p2) [.Name "self" p3,.JoinedStr [.Constant (.str z) j p4,.FormattedValue (.Name y p5) (-1) none p6] p7] [] p8) p9,.Assign [.Attribute (.Name "self" p10) (fV c) p11] (.Name y p12) p13])
 (hev:∀L cd,ER "DeedError" "__init__" (.Name "self" p3) (.JoinedStr [.Constant (.str z) j p4,.FormattedValue (.Name y p5) (-1) none p6] p7) p1 p2 p8 (envOfC qual (aW st) L fI cd))
 (hz:z.length<=1000) (hyd:(y==("__debug__":Str))=false) (hyc:(y==("__classdict__":Str))=false) (v0:(aW st).names.lookup ("self":Str)=some .local) (v1:(aW st).names.lookup y=some .local)
 (hg:∀L cd,(envOfC qual (aW st) L fI cd).kindOf "DeedError"=some .globalImplicit)
 (hbd:∀(kV doc pm:Oz) (an:Option Addr) (cdv ct u1 u2:Oz),bindArgs (PySem.W.fnOf "__init__" qual (gx st) (dA st) (aW st) .none kV doc pm an cdv ct) {[u1,u2],[]}=pure ((["self",y]:List Str).zip [u1,u2])) (P:OX) (base:Heap):lM fa P w K mg base c x:=by
 simp only[JK,OB,beq_iff_eq] at b;obtain⟨⟨⟨⟨⟨b1,b2⟩,b3⟩,b4⟩,b5⟩,b6⟩:=b;have F:=AG l e b6;exact{C,fI,_,y,_,P8 X G a,hf,b1,b2,l,rfl,F.binds λkV doc pm an cdv ct us hl=>Mh (p:=λus=>bindArgs (PySem.W.fnOf "__init__" qual (gx st) (dA st) (aW st) .none kV doc pm an cdv ct) {us,[]}=pure ((["self",y]:List Str).zip us)) (hbd kV doc pm an cdv ct) us hl,
  JJ F S hb hev hz hyd hyc v0 v1 hg (P8 X G aD) b3 h2 b4 b1 b5}
noncomputable def Hd (K:OA)(cl:List (Nat×Addr))(f:Str):Bool:=cl.all λq=>!(fV q.1==f)||(PySem.W.hasDictIn K q.2&&PySem.W.findIn K (.ref q.2) f==some none)
def yM {K:OA}{l cl:List (Nat×Addr)}{D:Addr}{f:Str}(h:Hd K cl f=true):w5 (wO l cl D) K f:=λc C e ef=>by
 unfold Hd at h;have:=(OJ.mp h) _ (jU e);simp only[ef,beq_self_eq_true,Bool.not_true,Bool.false_or,OB,beq_iff_eq] at this;exact this
mutual
def vP:∀d:D,(toPy d).hasDict=false
 |.non=>rfl
 |.bl _=>rfl
 |.int _=>rfl
 |.str _=>rfl
 |.tup ds=>by show PyData.hasDict (.tuple (bD ds))=false;rw[PyData.hasDict];exact oo ds
 |.lst ds=>by show PyData.hasDict (.list (bD ds))=false;rw[PyData.hasDict];exact oo ds
 |.frz _=>rfl
 |.cell _=>rfl
 |.fn _=>rfl
 |.exc _ _=>rfl
def oo:∀ds:List D,PyData.hasDictAll (bD ds)=false
 |[]=>rfl
 |d::r=>by show PyData.hasDictAll (toPy d::bD r)=false;rw[PyData.hasDictAll,vP d,oo r];rfl
end
def ie (M:Mem)(x:D):Str:=(toPy (cw 64 M x)).shown
noncomputable def ny (M:Mem)(x:D):Bool:=aC 64 (cw 64 M x)&&((toPy (cw 64 M x)).showable&&decide ((ie M x).length<=sizeLine))
noncomputable def DU:List D->Mem->Res D
 |[x],M=>if ny M x=true then .ok (.str (ie M x)) M else .bad
 |_,_=>.bad
def iE (s:GA):GE:=λZ M=>(s Z M).bind λds M=>DU ds M
noncomputable def K5 (fa:Fa)(K:OA):List V->Hp->VK->Prop:=λvs H Q=>∃μ M ds,RelM fa K μ H M/\aR fa K μ H ds vs/\ai (DU ds M) (bg fa K μ H Q)
section
variable{fa:Fa}{X:Cx}{a:Expr}{es:List Expr}{gs:GA}{p pos:Pos}{n:Nat}
def JP (hr:cv (n+4) X.A):di X (.builtin "repr") (K5 fa X.K):=by
 intro pins s σ H xs us Q I r h;obtain⟨μ,M,ds,hM,rl,h⟩:=h
 match ds,rl,h with
 |[],_,h=>exact h.elim
 |_::_::_,_,h=>exact h.elim
 | [d], rl, h =>
   obtain⟨v,rfl,hv⟩:=pG rl;obtain⟨u,rfl,ru⟩:=vals1 r;have h:ai (if ny M d=true then .ok (.str (ie M d)) M else .bad) (bg fa X.K μ H Q):=h;split at h
   ·next hs=>
    unfold ny at hs;rw[OB,OB] at hs;obtain⟨hp,hw,hl⟩:=hs;have hl:=of_decide_eq_true hl;obtain⟨as,R⟩:=ja I hM 64 64 d v u hp hv ru;have dep:=(nj 64 _ hp).2;have un:=hr.un;have fin:∀(h':Heap) (t:Tok) (tk:Nat),(∀(b:Addr) (o:Obj),s.heap.get? b=some o->h'.get? b=some o)->EP X pins σ Q (.str (ie M d) t) {s with heap:=h',toks:=tk}:=λh' t tk k=>{.str (ie M d),H,I.kept k,⟨t,rfl⟩,ba (v:=.str _) hM h rfl}
    unfold ie at fin hl;have nd:=vP (cw 64 M d);generalize toPy (cw 64 M d)=py at R hw dep hl fin nd;cases R with
    |none=>exact P.repr_of_none (fin _ _ _ λ_ _ e=>e)
    |bool b=>exact P.repr_of_bool (by rw[PyData.shown] at fin;exact fin _ _ _ λ_ _ e=>e)
    |int i t=>exact P.repr_of_int (by rw[PyData.showable] at hw;exact of_decide_eq_true hw) (fin _ _ _ λ_ _ e=>e)
    |str x t=>exact P.repr_of_str (fin _ _ _ λ_ _ e=>e) hl
    |list e1 e2 e3 e4=>exact repr_of_reads' (.list e1 e2 e3 e4) hw (λz=>by rw[nd] at z;cases z) hr.gd `a (λ_ _ e=>e) (λh' t tk k=>fin h' t tk k) hl
    |tuple e1 e2 e3 e4=>exact repr_of_reads' (.tuple e1 e2 e3 e4) hw (λz=>by rw[nd] at z;cases z) hr.gd `a (λ_ _ e=>e) (λh' t tk k=>fin h' t tk k) hl
    |dict e1 e2 e3 e4 e5=>cases nd
   ·exact h.elim
def H8 (hr:cv (n+4) X.A)(hg:Gl X "repr")(hm:X.mg "repr"=none)(hs:DA fa X (a::es) gs)(he:notStar a=true)(hpl:es.all notStar=true) :
 DE fa X (.Call (.Name "repr" p) (a::es) [] pos) (iE gs):=
 bG (iT (JP (fa:=fa) hr) hg hm `k hs `d `d (bK he) (dR hpl)) λσ H Q ⟨μ,Z,M,hE,hM,h⟩=>tW hE hM h λds M1 vs H1 μ1 x1 hE1 hM1 r1 h1=>{μ1,M1,ds,hM1,r1,kD h1 x1}
end
section
variable{prog:OX}{w:O6}{A:Pu}{E:Oz->OD->Prop}{s:OD}
def nZ {t sl:Addr}{items:Array Oz}{k:Tok}{Q:Oz->OD->Prop}(ht:IsTup s.heap t items)(hs:s.heap.IsSliceOf sl .none .none (.int 1 k))
 (h:Q (.ref t) s):wpAny (model prog w) A (getItem (.ref t) (.ref sl)) Q E s:=by
 obtain⟨os,hos,hcs,hds⟩:=id hs;have hTs:s.TypeIs (.ref sl) "slice":=⟨os,hos,hcs⟩;unfold getItem;try with_reducible refine tqo ?_
 first|refine tqa (tqb ?_)|skip
 refine tqa (wpAny_sequenceKey ht.typeIs `d ?_)
 refine tqa (wpAny_callSpecial?_slot (name:=Str.ofString "__getitem__") ht.typeIs O8
  (wpAny_call_entry O8 ht.typeIs entry_tuple_getitem ?_ (args_tuple_getitem _ _)))
 show wpAny _ _ (Builtin.Tuple.tupleItemsOf (.ref t) >>= _) _ _ s;refine tqa (tupleItemsOf_ ht ?_);refine tqa (wpAny_typeOf hTs ?_);rw[if_pos `d]
 unfold Builtin.Slice.sliceApplied Builtin.Slice.sliceFields;refine tqa (tqa (tqa (tqf hos hds (x:=.none) rfl (tqa (tqf hos hds (x:=.none) rfl (tqa (tqf hos hds (x:=.int 1 k) rfl (tqb ?_))))))));refine tqa (slicePart_int ?_);show wpAny _ _ (if ((1:Int)==0)=true then _ else _) _ _ s;rw[if_neg `d]
 refine tqa (slicePart_none (tqa (slicePart_none (tqa (tqb ?_)))));have ea:Builtin.Slice.sliceAdjust none none 1 (items.size:Int)=(0,(items.size:Int)):=by simp[Builtin.Slice.sliceAdjust]
 have ep:Builtin.Slice.slicePlaces 0 (items.size:Int) 1=items.size:=by
  unfold Builtin.Slice.slicePlaces;rw[if_pos `d]
  split
  ·simp
  ·omega
 show wpAny _ _ (match Builtin.Slice.sliceAdjust none none 1 (items.size:Int) with|(lo,hi)=>pure (lo,(1:Int),Builtin.Slice.slicePlaces lo hi 1)) _ _ s
 rw[ea];show wpAny _ _ (pure ((0:Int),(1:Int),Builtin.Slice.slicePlaces (0:Int) (items.size:Int) 1)) _ _ s;rw[ep];refine tqb ?_;show wpAny _ _ (if ((0:Int)==0&&(1:Int)==1&&items.size==items.size)=true then _ else _) _ _ s;rw[if_pos `s]
 refine tqa (m:=Builtin.Tuple.tupleIsExact (.ref t)) (tqa (wpAny_typeOf ht.typeIs (tqb ?_)));show wpAny _ _ (if (true:Bool)=true then _ else _) _ _ s;rw[if_pos rfl];exact tqa (wpAny_rule (tqb {_,rfl,tqb h}))
end
section
variable{fa:Fa}{X:Cx}{a st:Expr}{ga gs:GE}{pos p2:Pos}
noncomputable def qQ (a st:GE):GE:=λZ M=>(a Z M).bind λx M=>(st Z M).bind λy M=>match x,y with
 |.tup xs,.int i=>if i=1 then .ok (.tup xs) M else if i=-1 then .ok (.tup xs.reverse) M else .bad
 |_,_=>.bad
noncomputable def Nn (K:OA):V->V->Hp->VK->Prop:=λx y H Q=>∃a xs,x=.ref a/\dQ K H a xs/\((y=.int 1/\Q (.ref a) H)\/(y=.int (-1)/\∀p,H p=none->Q (.ref p) (upd H p (.tup xs.reverse))))
def IG {ta:TE}(ha:PE X a ta){ts:TE}(hst:PE X st ts) :
 PE X (.Subscript a (.Slice none none (some st) p2) pos) (λσ H Q=>ta σ H λx H1=>ts σ H1 λy H2=>Nn X.K x y H2 Q):=by
 intro pins s σ H Q I h;refine Subscript_ (a9 (ha pins s σ H _ I h) λv s1 ⟨x,H1,I1,r1,q1⟩=>?_);refine wpAny_Slice ?_;rw[evalPart_none];refine tqb ?_;refine tqb ?_;rw[evalPart_some];refine a9 (hst pins s1 σ H1 _ I1 q1) λvu s3 ⟨y,H3,I3,r3,b,xs,ex,hx,q⟩=>?_;subst ex;cases r1;have I4:Inv X pins σ H3 {s3 with heap:=s3.heap.push {cls:=.type "slice",data:=.fields #[.none,.none,vu]}}:=I3.kept (t':=s3.toks) λb ob q=>OE _ q
 have hsl:(s3.heap.push {cls:=.type "slice",data:=.fields #[.none,.none,vu]}).IsSliceOf s3.heap.objs.size .none .none vu:=Heap.IsSliceOf.new ..;obtain⟨its,r,ht,hz⟩:=I4.tuple hx;have hlen:=r.length;have hg:wpAny (model X.prog X.w) X.A (getItem (.ref b) (.ref s3.heap.objs.size)) (EP X pins σ Q) X.xe {s3 with heap:=s3.heap.push {cls:=.type "slice",data:=.fields #[.none,.none,vu]}}:=by
  rcases q with⟨ey,q⟩|⟨ey,q⟩
  ·subst ey;obtain⟨k,rfl⟩:=r3;exact nZ ht hsl {.ref b,H3,I4,rfl,q}
  ·subst ey;obtain⟨k,rfl⟩:=r3;refine jH ht hsl ?_ (by rw[OH,<- hlen];exact hz)
   refine{.ref _,_,I4.laid (t':=s3.toks) (o:=.tup xs.reverse) (λb ob q=>OE _ q) (OF _) ?_,rfl,q _ (I4.hok.fresh (OF _))};exact{by simpa using hz,_,lP r,IsTup.new _ _}
 show wpAny (model X.prog X.w) X.A (subscriptTail a (.Slice none none (some st) p2) (.ref b) (.ref s3.heap.objs.size)) (EP X pins σ Q) X.xe {s3 with heap:=s3.heap.push {cls:=.type "slice",data:=.fields #[.none,.none,vu]}}
 exact tail_any (ops:=[.ref b,.ref s3.heap.objs.size]) ht.typeIs O8.lookup hg (by with_unfolding_all rfl)
def K0 (ha:DE fa X a ga)(hs:DE fa X st gs):DE fa X (.Subscript a (.Slice none none (some st) p2) pos) (qQ ga gs):=
 bG (IG ha hs) λσ H Q ⟨μ,Z,M,hE,hM,h⟩=>t2 hE hM h λx y M2 v u H2 μ2 x2 hE2 hM2 r1 r2 h2=>by
  cases x with
  | tup ds =>
    cases y with
    | int i =>
      obtain⟨b,vs,rfl,hs,hr⟩:=id r1;obtain rfl:u=.int i:=r2;refine{b,vs,rfl,hs,?_};have h2:ai (if i=1 then Res.ok (.tup ds) M2 else if i=-1 then .ok (.tup ds.reverse) M2 else .bad) (bg fa X.K μ H Q):=h2;by_cases e1:i=1
      ·rw[if_pos e1] at h2;exact .inl {by rw[e1],ba hM2 (bg.ext h2 x2) r1}
      ·rw[if_neg e1] at h2;by_cases e2:i=-1
       ·rw[if_pos e2] at h2;exact .inr {by rw[e2],gU hM2 hr.reverse (bg.ext h2 x2)}
       ·rw[if_neg e2] at h2;exact h2.elim
    |_=>exact h2.elim
  |_=>exact h2.elim
end
noncomputable def lu (k1 k2:Nat)(h:GS):Fl->Mem->Res Fl
 | .exc x Z, M => match x with
   |.exc c _=>if c=k1\/c=k2 then(h Z M).bind λfl M=>match fl with|.exc _ _=>.bad|fl=>.ok fl M else .bad
   |_=>.bad
 |fl,M=>.ok fl M
noncomputable def mF (b:GS)(k1 k2:Nat)(h:GS):GS:=λZ M=>(b Z M).bind (lu k1 k2 h)
noncomputable def w9 (fa:Fa)(K:OA)(mg:Str->Option Oz)(x1 x2:Str)(k1 k2:Nat):Prop:=∃D1 D2,mg x1=some (.ref D1)/\mg x2=some (.ref D2)/\∀c C,c=k1\/c=k2->fa (fz c)=some C->PySem.W.exmAny K (.ref C) [.ref D1,.ref D2]=some true
section
variable{fa:Fa}{X:Cx}{pos np np' tp hp:Pos}{x1 x2:Str}{k1 k2 k:Nat}{body suite:List Stmt}{b0:Stmt}{gB gH:GS}
def Fv (h2:w9 fa X.K X.mg x1 x2 k1 k2)(hex:X.ex=[])(hst:X.stack=X.env::X.outer)(hfr:X.env.frame=some X.env.locals)
 (hg:Gl X x1) (hg':Gl X x2) (hdb:(x1==("__debug__":Str))=false) (hdb':(x2==("__debug__":Str))=false) (hb:∀pn E,kZ fa (kM X pn E) body gB) (hh:∀v E,kZ fa (qa X v E) (b0::suite) gH) :
 DS fa X (.Try body [.ExceptHandler (some (.Tuple [.Name x1 np,.Name x2 np'] k tp)) none (b0::suite) hp] [] [] pos) (mF gB k1 k2 gH):=by
 intro pins s σ H D' I ⟨μ,Z,M,hE,hM,h⟩;obtain⟨D1,D2,m1,m2,hm⟩:=h2;obtain⟨fl,M1,e,q⟩:=aV h;refine wpAny_Try_except (wpAny_mono (hb (X.pn++pins) (λe s₁=>wpAny (model X.prog X.w) X.A (noteFrame e X.env) (λ_ s₂=>wpAny (model X.prog X.w) X.A (setFlight e none) (λ_ s₃=>wpAny (model X.prog X.w) X.A (handleBy e X.env [.ExceptHandler (some (.Tuple [.Name x1 np,.Name x2 np'] k tp)) none (b0::suite) hp]) (SP X pins D') X.xe s₃) X.xe s₂) X.xe s₁) [] s σ H D' (si I _) {μ,Z,M,hE,hM,?_}) (λf s1 z=>?_) λ_ _ z=>z)
 ·rw[e];cases fl with
  |next ρ'=>exact q
  |ret d=>exact q
  | exc y ρ1 =>
    intro pins' σ' H' μ' s' a C dx c p I1 ye hE1 hM1 ey hcC hn fl;have I1:=I1.pins_of (pins':=[]) (λp hp=>nomatch hp);refine qF (P:=X.prog) (w:=X.w) (base:=X.base) (New:=lj (kM X (X.pn++pins) _)) (outer:=X.outer) (by rw[<- hst];exact I1.ok.frames) (by rw[<- hst];exact I1.stack) hfr fl (λb z=>(l9 I1 hex (Qo z)).1) I1.hok (by rw[<- hst];exact I1.stkFree) λh' ch hch u hok fl2=>?_
    have I2:Inv X pins σ' H' {s' with heap:=h'}:=uT (d7 I1) (λb hb=>{(hch b hb).1.1,(hch b hb).2.2,(hch b hb).1.2}) (by rw[hst];exact u) hok
    obtain⟨nw,ha,o,vs,h1,h2,h3,h4,tr⟩:=id fl2;have hnc:PySem.W.notCls o=true:=by unfold PySem.W.notCls;rw[h4]
    subst ey;have q:ai (lu k1 k2 gH (.exc (.exc c p) ρ1) M1) (ni fa X μ H D'):=q;have hck:c=k1\/c=k2:=by
     by_cases z:c=k1\/c=k2
     ·exact z
     ·unfold lu at q;dsimp only at q;rw[if_neg z] at q;exact q.elim
    unfold lu at q;dsimp only at q;rw[if_pos hck] at q;obtain⟨fl3,M2,e3,q3⟩:=aV q;have IA:∃od,Qi h' a o C od:=by
     cases p with
     | none =>
       have hn:dx=none:=hn;exact{none,h1,h2,hnc,by rw[h3,hn];trivial}
     | some k =>
       obtain⟨d,rfl,hd⟩:=hn;obtain⟨mA,⟨od,es,ep,ed,_⟩,_⟩:=hok d _ hd;exact{some od,h1,h2,hnc,by rw[h3];exact ed}
    obtain⟨od,IA⟩:=IA;refine wpAny_handleBy_cons (codeAny_handlers_test (wpAny_Tuple_spliced ?_)) (by intro z;cases z)
    refine Calls.spliced_cons (gv (ju I2 (.ref a) X.xe) hg m1 ?_ hdb);refine Calls.spliced_cons (gv (ju I2 (.ref a) X.xe) hg' m2 ?_ hdb');refine Calls.spliced_nil {by show 2<=sizeLine;decide,?_}
    have hf:H' h'.objs.size=none:=I2.hok.fresh (OF _);have kp:∀b u,h'.get? b=some u->(h'.push {cls:=.type "tuple",data:=.seq [Value.ref D1,Value.ref D2].toArray}).get? b=some u:=λb u e=>OE _ e;have ep:(h'.push {cls:=.type "tuple",data:=.seq [Value.ref D1,Value.ref D2].toArray}).get? h'.objs.size=some {cls:=.type "tuple",data:=.seq [Value.ref D1,Value.ref D2].toArray}:=OZ _ rfl;have I3:Inv X pins σ' (upd H' h'.objs.size (.tup [.ref D1,.ref D2])) {s' with heap:=h'.push {cls:=.type "tuple",data:=.seq [Value.ref D1,Value.ref D2].toArray}}:=I2.laid (t':=s'.toks) kp (OF _) {by show 2<=sizeLine;decide,[.ref D1,.ref D2],.cons rfl (.cons rfl .nil),{_,ep,rfl,_,rfl}}
    have LT:QJ (model X.prog X.w) h' (typeOf (.ref a)) (.ref C):=IA.type;refine(PySem.W.exm_tup2 (M:=model X.prog X.w) I3.kIn (LT.keeps kp) ep (hm c C hck hcC)).at ?_;have xa:Ext μ' H' μ' (upd H' h'.objs.size (.tup [.ref D1,.ref D2])):=Ext.alloc hM1 hf;have na:a≠h'.objs.size:=λz=>absurd (OQ h1) (by rw[z];exact PR _)
    have fl3':my (lj (kM X (X.pn++pins) X.xe)) C dx a (h'.push {cls:=.type "tuple",data:=.seq [Value.ref D1,Value.ref D2].toArray}) (upd H' h'.objs.size (.tup [.ref D1,.ref D2])):=by
     refine{nw,by rw[aN na];exact ha,o,vs,kp _ _ h1,h2,h3,h4,?_}
     rcases tr with t|⟨T,oT,ts,t1,t2,t3,t4,t5,t6,t7⟩
     ·exact .inl t
     ·exact .inr {T,oT,ts,t1,t2,t3,by rw[aN (λz=>absurd (OQ t5) (by rw[z];exact PR _))];exact t4,kp _ _ t5,t6,t7}
    refine codeAny_handlers_suite (qe fl3' ?_);refine wpAny_mono (hh (.ref a) _ pins _ σ' (upd H' h'.objs.size (.tup [.ref D1,.ref D2])) D' (ju I3 (.ref a) _) {μ',_,M1,hE1.ext xa,hM1.alloc hf,?_}) (λf s5 z=>?_) λ_ _ z=>z
    ·rw[e3];cases fl3 with
     |next ρ2=>exact λσ2 H2 μ2 x2 hE2 hM2=>q3 σ2 H2 μ2 ((ye.trans xa).trans x2) hE2 hM2
     |ret d=>exact bg.ext q3 (ye.trans xa)
     |exc=>exact q3.elim
    ·dsimp only;cases f with
     | next =>
       obtain⟨σ5,H5,I5,z⟩:=z;exact{_,H5,hJ I2.ok.hd I5,z}
     | ret u =>
       obtain⟨v,σ5,H5,I5,r5,z⟩:=z;exact{v,_,H5,hJ I2.ok.hd I5,r5,z}
     |brk=>obtain⟨_,H5,I5,z⟩:=z;exact{_,H5,hJ I2.ok.hd I5,z}
     |cont=>obtain⟨_,H5,I5,z⟩:=z;exact{_,H5,hJ I2.ok.hd I5,z}
 ·cases f with
  |next=>obtain⟨σ5,H5,I5,z⟩:=z;exact wpAny_execs_nil {σ5,H5,d7 I5,z}
  |ret u=>obtain⟨v,σ5,H5,I5,r5,z⟩:=z;exact{v,σ5,H5,d7 I5,r5,z}
  |brk=>obtain⟨σ5,H5,I5,z⟩:=z;exact{σ5,H5,d7 I5,z}
  |cont=>obtain⟨σ5,H5,I5,z⟩:=z;exact{σ5,H5,d7 I5,z}
end
noncomputable def MS (K:OA)(cl:List (Nat×Addr))(D1 D2:Addr)(k1 k2:Nat):Bool:=cl.all λq=>!(q.1==k1||q.1==k2)||PySem.W.exmAny K (.ref q.2) [.ref D1,.ref D2]==some true
def Hv {K:OA}{l cl:List (Nat×Addr)}{D D1 D2:Addr}{mg:Str->Option Oz}{x1 x2:Str}{k1 k2:Nat}(m1:mg x1=some (.ref D1))(m2:mg x2=some (.ref D2))(h:MS K cl D1 D2 k1 k2=true):w9 (wO l cl D) K mg x1 x2 k1 k2:=by
 refine{D1,D2,m1,m2,λc C hc e=>?_};have:=OJ.mp h _ (jU e);rw[Qv] at this;rcases this with z|z
 ·have e1:(c==k1||c==k2)=true:=by simpa using hc
  have z:(!(c==k1||c==k2))=true:=z;rw[e1] at z;cases z
 ·exact eq_of_beq z
end LD
namespace LD
open PySem
def ob {α β:Type}{a:Option α}{f:α->Option β}{r:β}(h:a.bind f=some r):∃x,a=some x/\f x=some r:=PB.mp h
def oi {α:Type}{c:Prop}[Decidable c]{a:Option α}{r:α}(h:(if c then a else none)=some r):c/\a=some r:=by
 split at h
 ·exact{by assumption,h}
 ·cases h
section
variable{β:Type}{r:β}{e:Expr}{st:Stmt}
def od {c:Prop}[Decidable c]{f:c->Option β}(h:(if x:c then f x else none)=some r):∃x,f x=some r:=by
 by_cases z:c
 ·rw[dif_pos z] at h;exact⟨z,h⟩
 ·rw[dif_neg z] at h;cases h
noncomputable def D8 (e:Expr)(k:UnaryOp->Expr->Pos->Option β):Option β:=if h:e.ctorIdx=3 then @Expr.UnaryOp.elim (λ_=>Option β) e h k else none
def uG {k:UnaryOp->Expr->Pos->Option β}(h:D8 e k=some r):∃a b c,e=.UnaryOp a b c/\k a b c=some r:=(od h).elim λz h=>@Expr.UnaryOp.elim (λe=>∀z,@Expr.UnaryOp.elim (λ_=>Option β) e z k=some r->∃a b c,e=.UnaryOp a b c/\k a b c=some r) e z (λa b c _ h=>⟨a,b,c,rfl,h⟩) z h
noncomputable def xN (e:Expr)(k:BoolOp->List Expr->Pos->Option β):Option β:=if h:e.ctorIdx=0 then @Expr.BoolOp.elim (λ_=>Option β) e h k else none
def uL {k:BoolOp->List Expr->Pos->Option β}(h:xN e k=some r):∃a b c,e=.BoolOp a b c/\k a b c=some r:=(od h).elim λz h=>@Expr.BoolOp.elim (λe=>∀z,@Expr.BoolOp.elim (λ_=>Option β) e z k=some r->∃a b c,e=.BoolOp a b c/\k a b c=some r) e z (λa b c _ h=>⟨a,b,c,rfl,h⟩) z h
noncomputable def Jh (e:Expr)(k:Expr->List Qf->Scope->Pos->Option β):Option β:=if h:e.ctorIdx=8 then @Expr.ListComp.elim (λ_=>Option β) e h k else none
def Af {k:Expr->List Qf->Scope->Pos->Option β}(h:Jh e k=some r):∃a b c d,e=.ListComp a b c d/\k a b c d=some r:=(od h).elim λz h=>@Expr.ListComp.elim (λe=>∀z,@Expr.ListComp.elim (λ_=>Option β) e z k=some r->∃a b c d,e=.ListComp a b c d/\k a b c d=some r) e z (λa b c d _ h=>⟨a,b,c,d,rfl,h⟩) z h
noncomputable def Cp (e:Expr)(k:Expr->Expr->Expr->Pos->Option β):Option β:=if h:e.ctorIdx=5 then @Expr.IfExp.elim (λ_=>Option β) e h k else none
def wD {k:Expr->Expr->Expr->Pos->Option β}(h:Cp e k=some r):∃a b c d,e=.IfExp a b c d/\k a b c d=some r:=(od h).elim λz h=>@Expr.IfExp.elim (λe=>∀z,@Expr.IfExp.elim (λ_=>Option β) e z k=some r->∃a b c d,e=.IfExp a b c d/\k a b c d=some r) e z (λa b c d _ h=>⟨a,b,c,d,rfl,h⟩) z h
noncomputable def Cq (e:Expr)(k:Expr->List CmpOp->List Expr->Pos->Option β):Option β:=if h:e.ctorIdx=15 then @Expr.Compare.elim (λ_=>Option β) e h k else none
def qI {k:Expr->List CmpOp->List Expr->Pos->Option β}(h:Cq e k=some r):∃a b c d,e=.Compare a b c d/\k a b c d=some r:=(od h).elim λz h=>@Expr.Compare.elim (λe=>∀z,@Expr.Compare.elim (λ_=>Option β) e z k=some r->∃a b c d,e=.Compare a b c d/\k a b c d=some r) e z (λa b c d _ h=>⟨a,b,c,d,rfl,h⟩) z h
noncomputable def xM (e:Expr)(k:Expr->List Expr->List Keyword->Pos->Option β):Option β:=if h:e.ctorIdx=16 then @Expr.Call.elim (λ_=>Option β) e h k else none
def uK {k:Expr->List Expr->List Keyword->Pos->Option β}(h:xM e k=some r):∃a b c d,e=.Call a b c d/\k a b c d=some r:=(od h).elim λz h=>@Expr.Call.elim (λe=>∀z,@Expr.Call.elim (λ_=>Option β) e z k=some r->∃a b c d,e=.Call a b c d/\k a b c d=some r) e z (λa b c d _ h=>⟨a,b,c,d,rfl,h⟩) z h
noncomputable def Jk (e:Expr)(k:Expr->Int->Option Expr->Pos->Option β):Option β:=if h:e.ctorIdx=17 then @Expr.FormattedValue.elim (λ_=>Option β) e h k else none
def Ge {k:Expr->Int->Option Expr->Pos->Option β}(h:Jk e k=some r):∃a b c d,e=.FormattedValue a b c d/\k a b c d=some r:=(od h).elim λz h=>@Expr.FormattedValue.elim (λe=>∀z,@Expr.FormattedValue.elim (λ_=>Option β) e z k=some r->∃a b c d,e=.FormattedValue a b c d/\k a b c d=some r) e z (λa b c d _ h=>⟨a,b,c,d,rfl,h⟩) z h
noncomputable def Ji (e:Expr)(k:List Expr->Pos->Option β):Option β:=if h:e.ctorIdx=18 then @Expr.JoinedStr.elim (λ_=>Option β) e h k else none
def Gb {k:List Expr->Pos->Option β}(h:Ji e k=some r):∃a b,e=.JoinedStr a b/\k a b=some r:=(od h).elim λz h=>@Expr.JoinedStr.elim (λe=>∀z,@Expr.JoinedStr.elim (λ_=>Option β) e z k=some r->∃a b,e=.JoinedStr a b/\k a b=some r) e z (λa b _ h=>⟨a,b,rfl,h⟩) z h
noncomputable def uJ (e:Expr)(k:Const->Nat->Pos->Option β):Option β:=if h:e.ctorIdx=19 then @Expr.Constant.elim (λ_=>Option β) e h k else none
def nH {k:Const->Nat->Pos->Option β}(h:uJ e k=some r):∃a b c,e=.Constant a b c/\k a b c=some r:=(od h).elim λz h=>@Expr.Constant.elim (λe=>∀z,@Expr.Constant.elim (λ_=>Option β) e z k=some r->∃a b c,e=.Constant a b c/\k a b c=some r) e z (λa b c _ h=>⟨a,b,c,rfl,h⟩) z h
noncomputable def xO (e:Expr)(k:Expr->Str->Pos->Option β):Option β:=if h:e.ctorIdx=20 then @Expr.Attribute.elim (λ_=>Option β) e h k else none
def uM {k:Expr->Str->Pos->Option β}(h:xO e k=some r):∃a b c,e=.Attribute a b c/\k a b c=some r:=(od h).elim λz h=>@Expr.Attribute.elim (λe=>∀z,@Expr.Attribute.elim (λ_=>Option β) e z k=some r->∃a b c,e=.Attribute a b c/\k a b c=some r) e z (λa b c _ h=>⟨a,b,c,rfl,h⟩) z h
noncomputable def uI (e:Expr)(k:Expr->Expr->Pos->Option β):Option β:=if h:e.ctorIdx=21 then @Expr.Subscript.elim (λ_=>Option β) e h k else none
def nF {k:Expr->Expr->Pos->Option β}(h:uI e k=some r):∃a b c,e=.Subscript a b c/\k a b c=some r:=(od h).elim λz h=>@Expr.Subscript.elim (λe=>∀z,@Expr.Subscript.elim (λ_=>Option β) e z k=some r->∃a b c,e=.Subscript a b c/\k a b c=some r) e z (λa b c _ h=>⟨a,b,c,rfl,h⟩) z h
noncomputable def nName (e:Expr)(k:Str->Pos->Option β):Option β:=if h:e.ctorIdx=23 then @Expr.Name.elim (λ_=>Option β) e h k else none
def dj {k:Str->Pos->Option β}(h:nName e k=some r):∃a b,e=.Name a b/\k a b=some r:=(od h).elim λz h=>@Expr.Name.elim (λe=>∀z,@Expr.Name.elim (λ_=>Option β) e z k=some r->∃a b,e=.Name a b/\k a b=some r) e z (λa b _ h=>⟨a,b,rfl,h⟩) z h
noncomputable def oM (e:Expr)(k:List Expr->Nat->Pos->Option β):Option β:=if h:e.ctorIdx=25 then @Expr.Tuple.elim (λ_=>Option β) e h k else none
def g9 {k:List Expr->Nat->Pos->Option β}(h:oM e k=some r):∃a b c,e=.Tuple a b c/\k a b c=some r:=(od h).elim λz h=>@Expr.Tuple.elim (λe=>∀z,@Expr.Tuple.elim (λ_=>Option β) e z k=some r->∃a b c,e=.Tuple a b c/\k a b c=some r) e z (λa b c _ h=>⟨a,b,c,rfl,h⟩) z h
noncomputable def Co (e:Expr)(k:Option Expr->Option Expr->Option Expr->Pos->Option β):Option β:=if h:e.ctorIdx=26 then @Expr.Slice.elim (λ_=>Option β) e h k else none
def wC {k:Option Expr->Option Expr->Option Expr->Pos->Option β}(h:Co e k=some r):∃a b c d,e=.Slice a b c d/\k a b c d=some r:=(od h).elim λz h=>@Expr.Slice.elim (λe=>∀z,@Expr.Slice.elim (λ_=>Option β) e z k=some r->∃a b c d,e=.Slice a b c d/\k a b c d=some r) e z (λa b c d _ h=>⟨a,b,c,d,rfl,h⟩) z h
noncomputable def xv (e:Stmt)(k:List Expr->Expr->Pos->Option β):Option β:=if h:e.ctorIdx=5 then @Stmt.Assign.elim (λ_=>Option β) e h k else none
def qx {k:List Expr->Expr->Pos->Option β}(h:xv st k=some r):∃a b c,st=.Assign a b c/\k a b c=some r:=(od h).elim λz h=>@Stmt.Assign.elim (λe=>∀z,@Stmt.Assign.elim (λ_=>Option β) e z k=some r->∃a b c,e=.Assign a b c/\k a b c=some r) st z (λa b c _ h=>⟨a,b,c,rfl,h⟩) z h
noncomputable def HS (e:Stmt)(k:Option Expr->Option Expr->Pos->Option β):Option β:=if h:e.ctorIdx=16 then @Stmt.Raise.elim (λ_=>Option β) e h k else none
def Fw {k:Option Expr->Option Expr->Pos->Option β}(h:HS st k=some r):∃a b c,st=.Raise a b c/\k a b c=some r:=(od h).elim λz h=>@Stmt.Raise.elim (λe=>∀z,@Stmt.Raise.elim (λ_=>Option β) e z k=some r->∃a b c,e=.Raise a b c/\k a b c=some r) st z (λa b c _ h=>⟨a,b,c,rfl,h⟩) z h
noncomputable def HQ (e:Stmt)(k:List Stmt->List PySem.ExceptHandler->List Stmt->List Stmt->Pos->Option β):Option β:=if h:e.ctorIdx=17 then @Stmt.Try.elim (λ_=>Option β) e h k else none
def zF {k:List Stmt->List PySem.ExceptHandler->List Stmt->List Stmt->Pos->Option β}(h:HQ st k=some r):∃a b c d f,st=.Try a b c d f/\k a b c d f=some r:=(od h).elim λz h=>@Stmt.Try.elim (λe=>∀z,@Stmt.Try.elim (λ_=>Option β) e z k=some r->∃a b c d f,e=.Try a b c d f/\k a b c d f=some r) st z (λa b c d f _ h=>⟨a,b,c,d,f,rfl,h⟩) z h
noncomputable def BY (e:Stmt)(k:Expr->Pos->Option β):Option β:=if h:e.ctorIdx=24 then @Stmt.Expr.elim (λ_=>Option β) e h k else none
def wd {k:Expr->Pos->Option β}(h:BY st k=some r):∃a b,st=.Expr a b/\k a b=some r:=(od h).elim λz h=>@Stmt.Expr.elim (λe=>∀z,@Stmt.Expr.elim (λ_=>Option β) e z k=some r->∃a b,e=.Expr a b/\k a b=some r) st z (λa b _ h=>⟨a,b,rfl,h⟩) z h
noncomputable def Jn (e:Expr)(k:Expr->Operator->Expr->Pos->Option β):Option β:=if h:e.ctorIdx=2 then @Expr.BinOp.elim (λ_=>Option β) e h k else none
def Gf {k:Expr->Operator->Expr->Pos->Option β}(h:Jn e k=some r):∃a b c d,e=.BinOp a b c d/\k a b c d=some r:=(od h).elim λz h=>@Expr.BinOp.elim (λe=>∀z,@Expr.BinOp.elim (λ_=>Option β) e z k=some r->∃a b c d,e=.BinOp a b c d/\k a b c d=some r) e z (λa b c d _ h=>⟨a,b,c,d,rfl,h⟩) z h
noncomputable def Jg (e:Expr)(k:List Expr->Pos->Option β):Option β:=if h:e.ctorIdx=24 then @Expr.List.elim (λ_=>Option β) e h k else none
def Ga {k:List Expr->Pos->Option β}(h:Jg e k=some r):∃a b,e=.List a b/\k a b=some r:=(od h).elim λz h=>@Expr.List.elim (λe=>∀z,@Expr.List.elim (λ_=>Option β) e z k=some r->∃a b,e=.List a b/\k a b=some r) e z (λa b _ h=>⟨a,b,rfl,h⟩) z h
noncomputable def Ms (e:Stmt)(k:Option Expr->Pos->Option β):Option β:=if h:e.ctorIdx=3 then @Stmt.Return.elim (λ_=>Option β) e h k else none
def HR {k:Option Expr->Pos->Option β}(h:Ms st k=some r):∃a b,st=.Return a b/\k a b=some r:=(od h).elim λz h=>@Stmt.Return.elim (λe=>∀z,@Stmt.Return.elim (λ_=>Option β) e z k=some r->∃a b,e=.Return a b/\k a b=some r) st z (λa b _ h=>⟨a,b,rfl,h⟩) z h
noncomputable def Mx (e:Stmt)(k:Expr->Expr->List Stmt->List Stmt->Pos->Option β):Option β:=if h:e.ctorIdx=9 then @Stmt.For.elim (λ_=>Option β) e h k else none
def HX {k:Expr->Expr->List Stmt->List Stmt->Pos->Option β}(h:Mx st k=some r):∃a b c d f,st=.For a b c d f/\k a b c d f=some r:=(od h).elim λz h=>@Stmt.For.elim (λe=>∀z,@Stmt.For.elim (λ_=>Option β) e z k=some r->∃a b c d f,e=.For a b c d f/\k a b c d f=some r) st z (λa b c d f _ h=>⟨a,b,c,d,f,rfl,h⟩) z h
noncomputable def Mw (e:Stmt)(k:Expr->List Stmt->List Stmt->Pos->Option β):Option β:=if h:e.ctorIdx=12 then @Stmt.If.elim (λ_=>Option β) e h k else none
def HW {k:Expr->List Stmt->List Stmt->Pos->Option β}(h:Mw st k=some r):∃a b c d,st=.If a b c d/\k a b c d=some r:=(od h).elim λz h=>@Stmt.If.elim (λe=>∀z,@Stmt.If.elim (λ_=>Option β) e z k=some r->∃a b c d,e=.If a b c d/\k a b c d=some r) st z (λa b c d _ h=>⟨a,b,c,d,rfl,h⟩) z h
noncomputable def Mv (e:Stmt)(k:Pos->Option β):Option β:=if h:e.ctorIdx=25 then @Stmt.Pass.elim (λ_=>Option β) e h k else none
def HU {k:Pos->Option β}(h:Mv st k=some r):∃a,st=.Pass a/\k a=some r:=(od h).elim λz h=>@Stmt.Pass.elim (λe=>∀z,@Stmt.Pass.elim (λ_=>Option β) e z k=some r->∃a,e=.Pass a/\k a=some r) st z (λa _ h=>⟨a,rfl,h⟩) z h
variable{α:Type}{l:List α}
noncomputable def n0 (l:List α)(v:Option β):Option β:=if l.isEmpty=true then v else none
def iu {v:Option β}(h:n0 l v=some r):l=[]/\v=some r:=(oi h).elim λc h=>{List.isEmpty_iff.mp c,h}
noncomputable def nC (l:List α)(k:α->List α->Option β):Option β:=match l with
 |[]=>none
 |a::s=>k a s
def jd {k:α->List α->Option β}(h:nC l k=some r):∃a s,l=a::s/\k a s=some r:=by
 cases l with
 |nil=>cases h
 |cons a s=>exact⟨a,s,rfl,h⟩
noncomputable def n1 (l:List α)(k:α->Option β):Option β:=nC l λa s=>n0 s (k a)
def eR {k:α->Option β}(h:n1 l k=some r):∃a,l=[a]/\k a=some r:=by
 obtain⟨a,s,rfl,h⟩:=jd h;obtain⟨rfl,h⟩:=iu h;exact⟨a,rfl,h⟩
noncomputable def n2 (l:List α)(k:α->α->Option β):Option β:=nC l λa s=>n1 s (k a)
def je {k:α->α->Option β}(h:n2 l k=some r):∃a b,l=[a,b]/\k a b=some r:=by
 obtain⟨a,s,rfl,h⟩:=jd h;obtain⟨b,rfl,h⟩:=eR h;exact⟨a,b,rfl,h⟩
noncomputable def Cn (e:Expr)(k:Str->Option β):Option β:=uJ e λc _ _=>match c with
 |.str z=>k z
 |_=>none
def wB {k:Str->Option β}(h:Cn e k=some r):∃z i p,e=.Constant (.str z) i p/\k z=some r:=by
 obtain⟨c,i,p,rfl,h⟩:=nH h;cases c with
 |str z=>exact⟨z,i,p,rfl,h⟩
 |_=>cases h
noncomputable def xJ (e:Expr)(v:Option β):Option β:=uJ e λc _ _=>match c with
 |.bool b=>if b=true then v else none
 |_=>none
def uH {v:Option β}(h:xJ e v=some r):∃i p,e=.Constant (.bool true) i p/\v=some r:=by
 obtain⟨c,i,p,rfl,h⟩:=nH h;cases c with
 |bool b=>obtain⟨rfl,k⟩:=oi h;exact⟨i,p,rfl,k⟩
 |_=>cases h
noncomputable def Jj (e:Expr)(k:Int->Option β):Option β:=uJ e λc _ _=>match c with
 |.int z=>k z
 |_=>none
def Gd {k:Int->Option β}(h:Jj e k=some r):∃z i p,e=.Constant (.int z) i p/\k z=some r:=by
 obtain⟨c,i,p,rfl,h⟩:=nH h;cases c with
 |int z=>exact⟨z,i,p,rfl,h⟩
 |_=>cases h
noncomputable def MC (e:Expr)(k:Expr->Option β):Option β:=Jk e λa i s _=>if i=-1/\s.isNone=true then k a else none
def Jl {k:Expr->Option β}(h:MC e k=some r):∃a p,e=.FormattedValue a (-1) none p/\k a=some r:=by
 obtain⟨a,i,s,p,rfl,h⟩:=Ge h;obtain⟨⟨rfl,c⟩,k⟩:=oi h;rw[PV.mp c];exact⟨a,p,rfl,k⟩
noncomputable def nG (c:Qf)(k:Expr->Expr->List Expr->Option β):Option β:=if c.is_async=0 then k c.target c.iter c.ifs else none
def xK {c:Qf}{k:Expr->Expr->List Expr->Option β}(h:nG c k=some r):∃t i f,c={t,i,f,0}/\k t i f=some r:=by
 obtain⟨z,h⟩:=oi h;cases c;cases z;exact{_,_,_,rfl,h}
noncomputable def pS (e:Expr)(k:Str->List Expr->Pos->Option β):Option β:=xM e λf es ks p=>nName f λx _=>n0 ks (k x es p)
def jt {k:Str->List Expr->Pos->Option β}(h:pS e k=some r):∃x q es p,e=.Call (.Name x q) es [] p/\k x es p=some r:=by
 obtain⟨f,es,ks,p,rfl,h⟩:=uK h;obtain⟨x,q,rfl,h⟩:=dj h;obtain⟨rfl,h⟩:=iu h;exact⟨x,q,es,p,rfl,h⟩
noncomputable def Jm (e:Expr)(k:Expr->Str->Expr->Bool->Option β):Option β:=xM e λf es ks p=>xO f λa m q=>n0 ks (n1 es λd=>k a m d (q.endLine==p.line))
def Ag {k:Expr->Str->Expr->Bool->Option β}(h:Jm e k=some r):∃a m q d p,e=.Call (.Attribute a m q) [d] [] p/\k a m d (q.endLine==p.line)=some r:=by
 obtain⟨f,es,ks,p,rfl,h⟩:=uK h;obtain⟨a,m,q,rfl,h⟩:=uM h;obtain⟨rfl,h⟩:=iu h;obtain⟨d,rfl,h⟩:=eR h;exact⟨a,m,q,d,p,rfl,h⟩
def cp {a b:Option β}(h:a.or b=some r):a=some r\/b=some r:=by
 cases a with
 |none=>exact .inr h
 |some x=>exact .inl h
end
end LD
namespace LD
open PySem PySem.Spec PyProof.Rows L2
inductive En where
 |fn (i:Nat) (r:Bool)|int (i:Int)|str (z:Str)|dct (fs:List (Str×Nat))|xc (k:Nat)|xi (k:Nat)|xk (k:Nat)|de|bl
structure EJ (fa:Fa) (P:OX) (w:O6) (K:OA) (mg:Str->Option Oz) (base:Heap) (T:List (Str×En)):Prop where
 fn:∀{x:Str}{i:Nat}{r:Bool},T.lookup x=some (.fn i r)->∀ad,fa i=some ad->mg x=some (.ref ad)
 int:∀{x:Str}{i:Int},T.lookup x=some (.int i)->∃t,mg x=some (.int i t)
 str:∀{x:Str}{z:Str},T.lookup x=some (.str z)->∃t,mg x=some (.str z t)
 dct:∀{x:Str}{fs:List (Str×Nat)},T.lookup x=some (.dct fs)->∃ad kvs,mg x=some (.ref ad)/\gA K w.params ad kvs/\fm fa kvs fs
 xc:∀{x:Str}{k:Nat},T.lookup x=some (.xc k)->∃C,mg x=some (.ref C)/\fa (fz k)=some C/\PySem.W.excIn K C mZ "ValueError.__new__"=true/\PySem.W.keepIn K (.ref C)=true
 xi:∀{x:Str}{k:Nat},T.lookup x=some (.xi k)->lM fa P w K mg base k x/\∃D,mg x=some (.ref D)/\fa (fz k)=some D
 xk:∀{x:Str}{k:Nat},T.lookup x=some (.xk k)->∃D,mg x=some (.ref D)/\fa (fz k)=some D
 de:∀{x:Str},T.lookup x=some .de->∃D,mg x=some (.ref D)/\fa 999=some D
 bl:∀{x:Str},T.lookup x=some .bl->mg x=none
 xcs:ng fa K
structure G where
 T:List (Str×En)
 tw:List (Str×Str×Nat×Nat)
 xf:List Str
 cel:List (Nat×Nat×Nat)
 txt:List (Nat×Nat×Nat)
 c:Call
 N:List Str
 sc:Scope
 lv:Nat
structure eZ (fa:Fa) (n:Nat) (g:G) (X:Cx):Prop where
 N:X.N=g.N
 nd:g.N.Nodup
 sc:X.env.scope=g.sc
 T:EJ fa X.prog X.w X.K X.mg X.base g.T
 tw:∀q∈g.tw,w9 fa X.K X.mg q.1 q.2.1 q.2.2.1 q.2.2.2
 xf:∀f∈g.xf,w5 fa X.K f
 fn:g.lv≠1->∀x,X.fn x=true
 calm:0<g.lv->X.calm=true
 C:0<g.lv->∀f,jz fa X.prog X.w X.K X.mg X.base n f (g.c f)
 hr:0<g.lv->cv (n+4) X.A
 top:2<=g.lv->X.ex=[]/\X.stack=X.env::X.outer/\X.env.frame=some X.env.locals/\X.env.scope.kind=.function
 po:g.lv=2->PassesOwn (model X.prog X.w) X.A X.env X.xe
structure Rc where
 e:G->Expr->Option GE
 t:G->Expr->Option GT
 x:G->Expr->Option GE
 w:G->Expr->Expr->Option GW
 s:G->Stmt->Option GS
abbrev fS:=Rc->G->Expr->Option GE
abbrev Kp:=Rc->G->Expr->Option GT
abbrev vE:=Rc->G->Expr->Expr->Option GW
abbrev oh:=Rc->G->Stmt->Option GS
structure km (fa:Fa) (n:Nat) (R:Rc):Prop where
 e:∀{g:G}{X:Cx}{a:Expr}{ga:GE},eZ fa n g X->R.e g a=some ga->DE fa X a ga
 t:∀{g:G}{X:Cx}{a:Expr}{ga:GT},eZ fa n g X->R.t g a=some ga->DT fa X a ga
 x:∀{g:G}{X:Cx}{a:Expr}{ga:GE},eZ fa n g X->R.x g a=some ga->DX fa X a ga
 w:∀{g:G}{X:Cx}{t a:Expr}{ga:GW},eZ fa n g X->R.w g t a=some ga->DI fa X t a ga
 s:∀{g:G}{X:Cx}{a:Stmt}{ga:GS},eZ fa n g X->R.s g a=some ga->DS fa X a ga
noncomputable def SE (r:fS):Prop:=∀{fa:Fa}{n:Nat}{R:Rc},km fa n R->∀{g:G}{X:Cx},eZ fa n g X->∀{a:Expr}{ga:GE},r R g a=some ga->DE fa X a ga
noncomputable def ST (r:Kp):Prop:=∀{fa:Fa}{n:Nat}{R:Rc},km fa n R->∀{g:G}{X:Cx},eZ fa n g X->∀{a:Expr}{ga:GT},r R g a=some ga->DT fa X a ga
noncomputable def SX (r:fS):Prop:=∀{fa:Fa}{n:Nat}{R:Rc},km fa n R->∀{g:G}{X:Cx},eZ fa n g X->∀{a:Expr}{ga:GE},r R g a=some ga->DX fa X a ga
noncomputable def SW (r:vE):Prop:=∀{fa:Fa}{n:Nat}{R:Rc},km fa n R->∀{g:G}{X:Cx},eZ fa n g X->∀{t a:Expr}{ga:GW},r R g t a=some ga->DI fa X t a ga
noncomputable def SS (r:oh):Prop:=∀{fa:Fa}{n:Nat}{R:Rc},km fa n R->∀{g:G}{X:Cx},eZ fa n g X->∀{a:Stmt}{ga:GS},r R g a=some ga->DS fa X a ga
structure Rs where
 e:List fS
 t:List Kp
 x:List fS
 w:List vE
 s:List oh
noncomputable def It (rs:Rs):Nat->Rc
 |0=>{λ_ _=>none,λ_ _=>none,λ_ _=>none,λ_ _ _=>none,λ_ _=>none}
 |n+1=>{λg a=>rs.e.findSome? λr=>r (It rs n) g a,λg a=>rs.t.findSome? λr=>r (It rs n) g a,λg a=>rs.x.findSome? λr=>r (It rs n) g a,λg t a=>rs.w.findSome? λr=>r (It rs n) g t a,λg a=>rs.s.findSome? λr=>r (It rs n) g a}
noncomputable def AllP {α:Type}(p:α->Prop):List α->Prop
 |[]=>True
 |a::l=>p a/\AllP p l
def AllP.mem {α:Type}{p:α->Prop}:∀{l:List α},AllP p l->∀a∈l,p a
 |_::_,h,a,m=>(OL.mp m).elim (λe=>e ▸ h.1) (AllP.mem h.2 a)
structure Dj (rs:Rs):Prop where
 e:AllP SE rs.e
 t:AllP ST rs.t
 x:AllP SX rs.x
 w:AllP SW rs.w
 s:AllP SS rs.s
def EO {fa:Fa}{n:Nat}{rs:Rs}(h:Dj rs):∀k,km fa n (It rs k)
 |0=>{(λ_ z=>nomatch z),(λ_ z=>nomatch z),(λ_ z=>nomatch z),(λ_ z=>nomatch z),(λ_ z=>nomatch z)}
 | k + 1 => by
   have ih:=EO (n:=n) (fa:=fa) h k;refine{λo z=>?_,λo z=>?_,λo z=>?_,λo z=>?_,λo z=>?_}
   ·obtain⟨r,m,e⟩:=Qb z;exact h.e.mem r m ih o e
   ·obtain⟨r,m,e⟩:=Qb z;exact h.t.mem r m ih o e
   ·obtain⟨r,m,e⟩:=Qb z;exact h.x.mem r m ih o e
   ·obtain⟨r,m,e⟩:=Qb z;exact h.w.mem r m ih o e
   ·obtain⟨r,m,e⟩:=Qb z;exact h.s.mem r m ih o e
def MM:Str:="__debug__"
noncomputable def jG (g:G)(x:Str):Bool:=g.sc.names.lookup x==some .globalImplicit&&!(x==MM)
noncomputable def vr (g:G)(x:Str):Option Nat:=if (g.sc.names.lookup x==some .local||g.sc.names.lookup x==some .cell||g.sc.names.lookup x==some .free)&&!(x==MM)&&!(x==("__classdict__":Str)) then g.N.findIdx? (·==x) else none
section
variable{fa:Fa}{n:Nat}{g:G}{X:Cx}{R:Rc}(o:eZ fa n g X)
include o
theorem dm {x:Str}(h:jG g x=true):Gl X x/\(x==("__debug__":Str))=false:=by
 unfold jG at h;rw[OB,Qx] at h;exact{by show X.env.scope.names.lookup x=_;rw[o.sc];exact eq_of_beq h.1,h.2}
theorem tf {x:Str}{i:Nat}(h:g.N.findIdx? (·==x)=some i):X.N[i]?=some x:=by
 obtain⟨hi,h1,_⟩:=List.findIdx?_eq_some_iff_getElem.mp h;rw[o.N,OW hi,eq_of_beq h1]
theorem Dv {x:Str}{i:Nat}(h:vr g x=some i):X.N[i]?=some x/\sM X.env.scope x/\(x==("__debug__":Str))=false/\(x==("__classdict__":Str))=false:=by
 obtain⟨c,h⟩:=oi h;simp only[OB,Qv,Qx] at c;refine{tf o h,?_,c.1.2,c.2};unfold sM;rw[o.sc];rcases c.1.1 with(z|z)|z
 ·exact .inl (eq_of_beq z)
 ·exact .inr (.inl (eq_of_beq z))
 ·exact .inr (.inr (eq_of_beq z))
omit o
theorem eZ.rm (o:eZ fa n g X)(h:0<g.lv):Rm X:=Fx (o.hr h)
end
noncomputable def cA (f:Expr->Option GE):List Expr->Option GA
 |[]=>some ah
 |a::r=>if notStar a=true then(f a).bind λx=>(cA f r).bind λy=>some (aa x y) else none
def kO {fa:Fa}{X:Cx}{f:Expr->Option GE}(hf:∀{a:Expr}{ga:GE},f a=some ga->DE fa X a ga):∀{es:List Expr}{gs:GA},cA f es=some gs->DA fa X es gs/\es.all notStar=true
 |[],_,h=>by cases h;exact⟨Ka,rfl⟩
 | a :: r, _, h => by
   obtain⟨c,h⟩:=oi h;obtain⟨x,hx,h⟩:=ob h;obtain⟨y,hy,h⟩:=ob h;cases h;obtain⟨h1,h2⟩:=kO hf hy;exact{GU (hf hx) h1 (bK c),by rw[PF,c,h2];rfl}
noncomputable def vB (f:Expr->Option GE)(k:GE->GE->GE):List Expr->Option GE
 |[]=>none
 |[a]=>f a
 |a::b::r=>(f a).bind λx=>(vB f k (b::r)).bind λy=>some (k x y)
def wZ {fa:Fa}{X:Cx}{pos:Pos}{f:Expr->Option GE}(hf:∀{a:Expr}{ga:GE},f a=some ga->DE fa X a ga):∀{es:List Expr}{ge:GE},vB f dZ es=some ge->DE fa X (.BoolOp .And es pos) ge
 |[a],_,h=>EA (hf h)
 | a :: b :: r, _, h => by
   obtain⟨x,hx,h⟩:=ob h;obtain⟨y,hy,h⟩:=ob h;cases h;exact L7 (hf hx) (wZ hf hy)
def A6 {fa:Fa}{X:Cx}{pos:Pos}{f:Expr->Option GE}(hf:∀{a:Expr}{ga:GE},f a=some ga->DE fa X a ga):∀{es:List Expr}{ge:GE},vB f MK es=some ge->DE fa X (.BoolOp .Or es pos) ge
 |[a],_,h=>EA (hf h)
 | a :: b :: r, _, h => by
   obtain⟨x,hx,h⟩:=ob h;obtain⟨y,hy,h⟩:=ob h;cases h;exact N0 (hf hx) (A6 hf hy)
noncomputable def tV (f:Expr->Option GT)(k:GT->GT->GT):List Expr->Option GT
 |[]=>none
 |[a]=>f a
 |a::b::r=>(f a).bind λx=>(tV f k (b::r)).bind λy=>some (k x y)
def vW {fa:Fa}{X:Cx}{pos:Pos}{f:Expr->Option GT}(hf:∀{a:Expr}{ga:GT},f a=some ga->DT fa X a ga):∀{es:List Expr}{ge:GT},tV f gW es=some ge->DW fa X (.BoolOp .And es pos) ge
 |[a],_,h=>Gz (hf h)
 | a :: b :: r, _, h => by
   obtain⟨x,hx,h⟩:=ob h;obtain⟨y,hy,h⟩:=ob h;cases h;exact JX (hf hx) (vW hf hy)
def zh {fa:Fa}{X:Cx}{pos:Pos}{f:Expr->Option GT}(hf:∀{a:Expr}{ga:GT},f a=some ga->DT fa X a ga):∀{es:List Expr}{ge:GT},tV f eA es=some ge->DW fa X (.BoolOp .Or es pos) ge
 |[a],_,h=>JW (hf h)
 | a :: b :: r, _, h => by
   obtain⟨x,hx,h⟩:=ob h;obtain⟨y,hy,h⟩:=ob h;cases h;exact LJ (hf hx) (zh hf hy)
noncomputable def Dy:fS:=λ_ g e=>nName e λx _=>((vr g x).bind λi=>some (ae i)).or (if jG g x=true then(g.T.lookup x).bind fun
 |.int i=>some (gC (.int i))
 |.str i=>some (gC (.str i))
 |_=>none else none)
def Bn:SE Dy:=by
 intro fa n R rc g X o a ga h;replace h:=dj h;obtain⟨x,p,rfl,h⟩:=h;rcases cp h with h|h
 ·obtain⟨i,e,h⟩:=ob h;cases h;obtain⟨a,b,c,d⟩:=Dv o e;exact LM a b c d
 ·obtain⟨c,h⟩:=oi h;obtain⟨hg,hd⟩:=dm o c;obtain⟨t,e,h⟩:=ob h;cases t with
  |int i=>cases h;exact FE hg (o.T.int e) hd
  |str i=>cases h;obtain⟨t,e⟩:=o.T.str e;exact jV (v:=.str _) (iS hg e ⟨t,rfl⟩ hd) λ_ _=>rfl
  |_=>cases h
noncomputable def zb:fS:=λ_ _ e=>uJ e fun
 |.int i,_,_=>some (gC (.int i))
 |.bool i,_,_=>some (gC (.bl i))
 |.str i,_,_=>some (gC (.str i))
 |.none,_,_=>some (gC .non)
 |_,_,_=>none
def yZ:SE zb:=by
 intro fa n R rc g X o a ga h;replace h:=nH h;obtain⟨c,i,p,rfl,h⟩:=h;cases c with
 |int i=>cases h;exact LX
 |bool i=>cases h;exact Ke
 |str i=>cases h;exact LO
 |none=>cases h;exact LR
 |_=>cases h
noncomputable def G.cl (g:G)(p:Pos):Bool:=g.cel.contains (p.line,p.col,p.endCol)
noncomputable def G.tx (g:G)(p:Pos):Bool:=g.txt.contains (p.line,p.col,p.endCol)
noncomputable def EH:Operator->Option mz
 |.Add=>some .add|.Sub=>some .sub|.Mult=>some .mul|.FloorDiv=>some .fdiv|.Mod=>some .mod|.Pow=>some .pow|_=>none
def Dd {q:Operator}{b:mz}(h:EH q=some b):q=binOp b:=by cases q<;>cases h<;>rfl
noncomputable def gy:CmpOp->kr
 |.Eq=>.eq|.NotEq=>.ne|.Lt=>.lt|.LtE=>.le|.Gt=>.gt|.GtE=>.ge|.Is=>.isN|.IsNot=>.notN|.In=>.isin|.NotIn=>.notin
def dw (q:CmpOp):fg (gy q)=q:=by cases q<;>rfl
noncomputable def Hm:fS:=λR g e=>(Jn e λa q b p=>(EH q).bind λq=>(R.e g a).bind λx=>(R.e g b).bind λy=>some (au (g.cl p) q x y)).or
 ((D8 e λq a _ => match q with
   |.USub=>(R.e g a).bind λx=>some (fH x)
   |.Not=>(R.e g a).bind λx=>some (JM x)
   |_=>none).or
 ((xN e λq es _ => match q with
   |.And=>vB (R.e g) dZ es
   |.Or=>vB (R.e g) MK es).or
 ((Cp e λc a b _=>(R.t g c).bind λt=>(R.e g a).bind λx=>(R.e g b).bind λy=>some (fJ t x y)).or
 ((oM e λes _ _=>(cA (R.e g) es).bind λs=>some (bH s)).or (Jg e λes p=>(cA (R.e g) es).bind λs=>some (aO (g.cl p) s))))))
def E6:SE Hm:=by
 intro fa n R rc g X o a ga h;replace h:=cp h;rcases h with h|h
 ·replace h:=Gf h;obtain⟨a,q,b,p,rfl,h⟩:=h;obtain⟨q,hq,h⟩:=ob h;obtain⟨x,hx,h⟩:=ob h;obtain⟨y,hy,h⟩:=ob h;cases h;rw[Dd hq];exact L6 _ _ (rc.e o hx) (rc.e o hy)
 replace h:=cp h;rcases h with h|h
 ·replace h:=uG h;obtain⟨q,a,p,rfl,h⟩:=h;cases q with
  |USub=>obtain⟨x,hx,h⟩:=ob h;cases h;exact LU (rc.e o hx)
  |Not=>obtain⟨x,hx,h⟩:=ob h;cases h;exact LQ (rc.e o hx)
  |_=>cases h
 replace h:=cp h;rcases h with h|h
 ·replace h:=uL h;obtain⟨q,es,p,rfl,h⟩:=h;cases q with
  |And=>exact wZ (rc.e o) h
  |Or=>exact A6 (rc.e o) h
 replace h:=cp h;rcases h with h|h
 ·replace h:=wD h;obtain⟨c,a,b,p,rfl,h⟩:=h;obtain⟨t,ht,h⟩:=ob h;obtain⟨x,hx,h⟩:=ob h;obtain⟨y,hy,h⟩:=ob h;cases h;exact LW (rc.t o ht) (rc.e o hx) (rc.e o hy)
 replace h:=cp h;rcases h with h|h
 ·replace h:=g9 h;obtain⟨es,k,p,rfl,h⟩:=h;obtain⟨s,hs,h⟩:=ob h;cases h;exact LN (kO (rc.e o) hs).1
 ·replace h:=Ga h;obtain⟨es,p,rfl,h⟩:=h;obtain⟨s,hs,h⟩:=ob h;cases h;exact LV _ (kO (rc.e o) hs).1
noncomputable def C5 (g:G)(x:Str):Option (List (Str×Nat)):=if jG g x=true then(match g.T.lookup x with|some (.dct fs)=>some fs|_=>none) else none
def vc {fa:Fa}{n:Nat}{g:G}{X:Cx}(o:eZ fa n g X){x:Str}{fs:List (Str×Nat)}(h:C5 g x=some fs):(∃ad kvs,X.mg x=some (.ref ad)/\gA X.K X.w.params ad kvs/\fm fa kvs fs)/\Gl X x/\(x==("__debug__":Str))=false:=by
 obtain⟨c,h⟩:=oi h;split at h
 ·next e=>cases h;exact{o.T.dct e,dm o c}
 ·cases h
noncomputable def C9 (R:Rc)(g:G)(e:Expr):Option GE:=Cq e λa qs bs _=>
 (n2 qs λq r=>n2 bs λb c=>if 0<g.lv/\behindInMarks r c=false then(R.e g a).bind λy=>(R.e g b).bind λz=>(R.e g c).bind λu=>some (mf (gy q) (gy r) y z u) else none).or
 (n1 qs λq=>n1 bs λb=>(if gy q=.notin then nName b λx _=>(C5 g x).bind λfs=>(R.e g a).bind λy=>some (jK fs y) else none).or
  (if 0<g.lv/\behindInMarks q b=false then(R.e g a).bind λy=>(R.e g b).bind λz=>some (aL (gy q) y z) else none))
def Hs:fS:=C9
def uE {q:CmpOp}(h:gy q=.notin):q=.NotIn:=(dw q).symm.trans (congrArg fg h)
def Fb:SE Hs:=by
 intro fa n R rc g X o a ga h;replace h:=qI h;obtain⟨a,qs,bs,p,rfl,h⟩:=h;replace h:=cp h;rcases h with h|h
 ·replace h:=je h;obtain⟨q,r,rfl,h⟩:=h;replace h:=je h;obtain⟨b,d,rfl,h⟩:=h;replace h:=oi h;obtain⟨c,h⟩:=h;replace h:=ob h;obtain⟨y,hy,h⟩:=h;replace h:=ob h;obtain⟨z,hz,h⟩:=h;replace h:=ob h;obtain⟨u,hu,h⟩:=h;cases h;have:=L5 (o.rm c.1) (gy q) (gy r) (rc.e o hy) (rc.e o hz) (rc.e o hu) (by rw[dw,dw];exact c.2) (pos:=p)
  rw[dw,dw] at this;exact this
 replace h:=eR h;obtain⟨q,rfl,h⟩:=h;replace h:=eR h;obtain⟨b,rfl,h⟩:=h;replace h:=cp h;rcases h with h|h
 ·replace h:=oi h;obtain⟨c,h⟩:=h;replace h:=dj h;obtain⟨x,_,rfl,h⟩:=h;obtain⟨fs,e,h⟩:=ob h;obtain⟨y,hy,h⟩:=ob h;cases h;obtain⟨d,e1,e2⟩:=vc o e;rw[uE c];exact FG d e1 e2 (rc.e o hy) rfl
 ·obtain⟨c,h⟩:=oi h;obtain⟨y,hy,h⟩:=ob h;obtain⟨z,hz,h⟩:=ob h;cases h;have:=LZ (o.rm c.1) (gy q) (rc.e o hy) (rc.e o hz) (by rw[dw];exact c.2) (pos:=p)
  rw[dw] at this;exact this
noncomputable def MV:Expr->Bool
 |.Compare ..=>false
 |.BoolOp ..=>false
 |.UnaryOp ..=>false
 |.IfExp ..=>false
 |_=>true
noncomputable def vT:Kp:=λR g e=>(Cq e λa qs bs _=>(n1 qs λq=>n1 bs λb=>xJ b (if gy q=.notN then(R.e g a).bind λx=>some (ax (yh x (gC (.bl true)))) else none)).or ((C9 R g e).bind λx=>some (ax x))).or
 ((xN e λq es _ => match q with
   |.And=>tV (R.t g) gW es
   |.Or=>tV (R.t g) eA es).or
 ((D8 e λq a _ => match q with
   |.Not=>(R.t g a).bind λx=>some (bC x)
   |_=>none).or (if MV e=true then(R.e g e).bind λx=>some (ax x) else none)))
def E2 {fa:Fa}{n:Nat}{R:Rc}(rc:km fa n R){g:G}{X:Cx}(o:eZ fa n g X){a:Expr}{ga:GE}(h:C9 R g a=some ga):DT fa X a (ax ga):=by
 replace h:=qI h;obtain⟨a,qs,bs,p,rfl,h⟩:=h;replace h:=cp h;rcases h with h|h
 ·replace h:=je h;obtain⟨q,r,rfl,h⟩:=h;replace h:=je h;obtain⟨b,d,rfl,h⟩:=h;replace h:=oi h;obtain⟨c,h⟩:=h;replace h:=ob h;obtain⟨y,hy,h⟩:=h;replace h:=ob h;obtain⟨z,hz,h⟩:=h;replace h:=ob h;obtain⟨u,hu,h⟩:=h;cases h;have:=J0 (o.rm c.1) (gy q) (gy r) (rc.e o hy) (rc.e o hz) (rc.e o hu) (by rw[dw,dw];exact c.2) (pos:=p)
  rw[dw,dw] at this;exact this
 replace h:=eR h;obtain⟨q,rfl,h⟩:=h;replace h:=eR h;obtain⟨b,rfl,h⟩:=h;replace h:=cp h;rcases h with h|h
 ·replace h:=oi h;obtain⟨c,h⟩:=h;replace h:=dj h;obtain⟨x,_,rfl,h⟩:=h;obtain⟨fs,e,h⟩:=ob h;obtain⟨y,hy,h⟩:=ob h;cases h;obtain⟨d,e1,e2⟩:=vc o e;rw[uE c];exact FL d e1 e2 (rc.e o hy) rfl
 ·obtain⟨c,h⟩:=oi h;obtain⟨y,hy,h⟩:=ob h;obtain⟨z,hz,h⟩:=ob h;cases h;have:=JZ (o.rm c.1) (gy q) (rc.e o hy) (rc.e o hz) (by rw[dw];exact c.2) (pos:=p)
  rw[dw] at this;exact this
def KC:ST vT:=by
 intro fa n R rc g X o a ga h;replace h:=cp h;rcases h with h|h
 ·replace h:=qI h;obtain⟨a,qs,bs,p,rfl,h⟩:=h;replace h:=cp h;rcases h with h|h
  ·replace h:=eR h;obtain⟨q,rfl,h⟩:=h;replace h:=eR h;obtain⟨b,rfl,h⟩:=h;replace h:=uH h;obtain⟨_,_,rfl,h⟩:=h;replace h:=oi h;obtain⟨c,h⟩:=h;replace h:=ob h;obtain⟨x,hx,h⟩:=h;cases h;rw[show q=.IsNot from(dw q).symm.trans (congrArg fg c)];exact Io (rc.e o hx) Ke rfl
  ·replace h:=ob h;obtain⟨x,hx,h⟩:=h;cases h;exact E2 rc o hx
 replace h:=cp h;rcases h with h|h
 ·replace h:=uL h;obtain⟨q,es,p,rfl,h⟩:=h;cases q with
  |And=>exact PW.pt (vW (rc.t o) h)
  |Or=>exact PW.pt (zh (rc.t o) h)
 replace h:=cp h;rcases h with h|h
 ·replace h:=uG h;obtain⟨q,a,p,rfl,h⟩:=h;cases q with
  |Not=>obtain⟨x,hx,h⟩:=ob h;cases h;exact JY (rc.t o hx)
  |_=>cases h
 ·obtain⟨c,h⟩:=oi h;obtain⟨x,hx,h⟩:=ob h;cases h;exact CV (rc.e o hx) λ_=>by cases a<;>first|rfl|cases c
def pQ:Expr->Bool
 |.Slice ..=>false
 |_=>true
def ur {b:Expr}(h:pQ b=true):lK b:=by
 intro x i;cases b<;>first|rfl|cases h
noncomputable def cO (f:Expr->Option GE):Option Expr->Option GE
 |none=>some (gC .non)
 |some a=>f a
def tm {fa:Fa}{X:Cx}{f:Expr->Option GE}(hf:∀{a:Expr}{ga:GE},f a=some ga->DE fa X a ga){q:Option Expr}{ge:GE}(h:cO f q=some ge):DO fa X q q.isSome ge:=by
 cases q with
 |none=>cases h;exact GI
 |some a=>exact GH (hf h)
def Hi:UnaryOp->Bool
 |.USub=>true
 |_=>false
def E3 {q:UnaryOp}(h:Hi q=true):q=.USub:=by cases q<;>first|rfl|cases h
noncomputable def Hk:fS:=λR g e=>uI e λa b _=>nName a λx _=>(C5 g x).bind λfs=>if pQ b=true then(R.e g b).bind λy=>some (md fs y) else none
def E4:SE Hk:=by
 intro fa n R rc g X o a ga h;replace h:=nF h;obtain⟨a,b,p,rfl,h⟩:=h;replace h:=dj h;obtain⟨x,q,rfl,h⟩:=h;obtain⟨fs,e,h⟩:=ob h;obtain⟨c,h⟩:=oi h;obtain⟨y,hy,h⟩:=ob h;cases h;obtain⟨d,e1,e2⟩:=vc o e;exact FH d e1 e2 (rc.e o hy) (ur c)
noncomputable def Ho:fS:=λR g e=>uI e λa b p=>(Co b λlo hi st _=>match st with
 |none=>(R.e g a).bind λx=>(cO (R.e g) lo).bind λy=>(cO (R.e g) hi).bind λz=>some (if g.tx p=true then nK lo.isSome hi.isSome x y z else cq (g.cl p) lo.isSome hi.isSome x y z)
 |some s=>D8 s λq c _=>Jj c λz=>if lo.isNone=true/\hi.isNone=true/\Hi q=true/\z=1 then(R.e g a).bind λx=>some (oS (g.cl p) x) else none).or
 (if pQ b=true then(R.e g a).bind λx=>(R.e g b).bind λy=>some (aE x y) else none)
def E8:SE Ho:=by
 intro fa n R rc g X o a ga h;replace h:=nF h;obtain⟨a,b,p,rfl,h⟩:=h;replace h:=cp h;rcases h with h|h
 ·replace h:=wC h;obtain⟨lo,hi,st,p2,rfl,h⟩:=h;cases st with
  | none =>
    replace h:=ob h;obtain⟨x,hx,h⟩:=h;replace h:=ob h;obtain⟨y,hy,h⟩:=h;replace h:=ob h;obtain⟨z,hz,h⟩:=h;cases h;split
    ·exact HZ _ _ (rc.e o hx) (tm (rc.e o) hy) (tm (rc.e o) hz)
    ·exact LP _ _ _ (rc.e o hx) (tm (rc.e o) hy) (tm (rc.e o) hz)
  | some s =>
    replace h:=uG h;obtain⟨q,c,_,rfl,h⟩:=h;replace h:=Gd h;obtain⟨z,_,_,rfl,h⟩:=h;replace h:=oi h;obtain⟨⟨c1,c2,c3,rfl⟩,h⟩:=h;rw[PV.mp c1,PV.mp c2,E3 c3];obtain⟨x,hx,h⟩:=ob h;cases h;exact K1 _ (rc.e o hx)
 ·obtain⟨c,h⟩:=oi h;obtain⟨x,hx,h⟩:=ob h;obtain⟨y,hy,h⟩:=ob h;cases h;exact LY (rc.e o hx) (rc.e o hy) (ur c)
noncomputable def Hl:fS:=λR g e=>uI e λa b _=>Co b λlo hi st _=>if lo.isNone=true/\hi.isNone=true then st.bind λb=>(R.e g a).bind λx=>(R.e g b).bind λy=>some (qQ x y) else none
def E5:SE Hl:=by
 intro fa n R rc g X o a ga h;replace h:=nF h;obtain⟨a,b,p,rfl,h⟩:=h;replace h:=wC h;obtain⟨lo,hi,st,p2,rfl,h⟩:=h;replace h:=oi h;obtain⟨⟨c1,c2⟩,h⟩:=h;replace h:=ob h;obtain⟨b,rfl,h⟩:=h;rw[PV.mp c1,PV.mp c2];obtain⟨x,hx,h⟩:=ob h;obtain⟨y,hy,h⟩:=ob h;cases h;exact K0 (rc.e o hx) (rc.e o hy)
noncomputable def lx (g:G)(x:Str):Option Nat:=if (g.sc.names.lookup x==some .local||(g.sc.names.lookup x==some .cell&&g.lv != 1))=true then g.N.findIdx? (·==x) else none
noncomputable def Jv (g:G):List Expr->Option (List Nat)
 |[]=>some []
 |e::r=>nName e λx _=>(lx g x).bind λi=>(Jv g r).bind λl=>some (i::l)
noncomputable def cG (g:G)(e:Expr):Option dB:=(nName e λx _=>(lx g x).bind λi=>some (.one i)).or (oM e λes _ _=>if 0<g.lv then(Jv g es).bind λl=>some (.tup l) else none)
section
variable{fa:Fa}{n:Nat}{g:G}{X:Cx}{R:Rc}(o:eZ fa n g X)
include o
theorem D9 {x:Str}{i:Nat}(h:lx g x=some i):X.N[i]?=some x/\L2.Loc X.env.scope x/\(X.fn x=true\/X.env.scope.names.lookup x=some .local):=by
 obtain⟨c,h⟩:=oi h;rw[Qv,OB] at c;refine{tf o h,?_,?_}
 ·unfold L2.Loc;rw[o.sc];rcases c with z|z
  ·exact .inl (eq_of_beq z)
  ·exact .inr (eq_of_beq z.1)
 ·rcases c with z|z
  ·right;rw[o.sc];exact eq_of_beq z
  ·exact .inl (o.fn (by simpa using z.2) x)
theorem Ak:∀{es:List Expr}{l:List Nat},Jv g es=some l->kY X l es
 |[],_,h=>by cases h;exact .nil
 | e :: r, _, h => by
   replace h:=dj h;obtain⟨x,p,rfl,h⟩:=h;obtain⟨i,hi,h⟩:=ob h;obtain⟨l,hl,h⟩:=ob h;cases h;obtain⟨a,b,c⟩:=D9 o hi;exact .cons a b c (Ak hl)
theorem mn {t:Expr}{tt:dB}(h:cG g t=some tt):PG X t (gT fa X.K tt):=by
 replace h:=cp h;rcases h with h|h
 ·replace h:=dj h;obtain⟨x,p,rfl,h⟩:=h;replace h:=ob h;obtain⟨i,hi,h⟩:=h;cases h;obtain⟨a,b,c⟩:=D9 o hi;exact GP (o.N ▸ o.nd) a b c
 ·replace h:=g9 h;obtain⟨es,k,p,rfl,h⟩:=h;obtain⟨c,h⟩:=oi h;obtain⟨l,hl,h⟩:=ob h;cases h;exact J8 (o.calm c) (o.N ▸ o.nd) (Ak o hl)
end
noncomputable def cB (nm:Str)(R:Rc)(g:G)(e:Expr):Option (List Expr×GA):=pS e λx es _=>nC es λa es=>if x=nm/\jG g x=true/\(match g.T.lookup x with|some .bl=>true|_=>false)=true/\0<g.lv then(cA (R.e g) (a::es)).bind λgs=>some (a::es,gs) else none
def nU {g:G}{x:Str}(h:(match g.T.lookup x with|some .bl=>true|_=>false)=true):g.T.lookup x=some .bl:=by
 split at h
 ·assumption
 ·cases h
def qk {fa:Fa}{n:Nat}{R:Rc}{nm:Str}(rc:km fa n R){g:G}{X:Cx}(o:eZ fa n g X){e:Expr}{as:List Expr}{gs:GA}(h:cB nm R g e=some (as,gs)):∃p pos a es,as=a::es/\e=.Call (.Name nm p) (a::es) [] pos/\Gl X nm/\X.mg nm=none/\0<g.lv/\DA fa X (a::es) gs/\notStar a=true/\es.all notStar=true:=by
 replace h:=jt h;obtain⟨x,q,es,p,rfl,h⟩:=h;replace h:=jd h;obtain⟨a,es,rfl,h⟩:=h;replace h:=oi h;obtain⟨⟨rfl,c1,c2,c3⟩,h⟩:=h;obtain⟨gs,hgs,h⟩:=ob h;cases h;obtain⟨d,ns⟩:=kO (rc.e o) hgs;rw[PF,OB] at ns;exact{_,_,_,_,rfl,rfl,(dm o c1).1,o.T.bl (nU c2),c3,d,ns.1,ns.2}
noncomputable def Hn:fS:=λR g e=>(cB "len" R g e).bind λq=>some (aX .len q.2)
def E7:SE Hn:=λ{fa n R} rc {g X} o {a ga} h=>by
 obtain⟨⟨as,gs⟩,hq,h⟩:=ob h;cases h;obtain⟨_,_,_,_,_,rfl,hg,hm,_,d,n1,n2⟩:=qk rc o hq;exact EB .len LA hg hm PySem.boot_len d `d `d (bK n1) (dR n2)
noncomputable def Ht:fS:=λR g e=>(cB "all" R g e).bind λq=>some (aX .all q.2)
def Fc:SE Ht:=λ{fa n R} rc {g X} o {a ga} h=>by
 obtain⟨⟨as,gs⟩,hq,h⟩:=ob h;cases h;obtain⟨_,_,_,_,_,rfl,hg,hm,lv,d,n1,n2⟩:=qk rc o hq;exact EB .all (LC (o.calm lv)) hg hm `k d `d `d (bK n1) (dR n2)
noncomputable def Dx:fS:=λR g e=>(cB "repr" R g e).bind λq=>some (iE q.2)
def Bm:SE Dx:=λ{fa n R} rc {g X} o {a ga} h=>by
 obtain⟨⟨as,gs⟩,hq,h⟩:=ob h;cases h;obtain⟨_,_,_,_,_,rfl,hg,hm,lv,d,n1,n2⟩:=qk rc o hq;exact H8 (o.hr lv) hg hm d n1 n2
noncomputable def yU:fS:=λR g e=>(cB "tuple" R g e).bind λq=>some (aX .tuple q.2)
def yT:SE yU:=λ{fa n R} rc {g X} o {a ga} h=>by
 obtain⟨⟨as,gs⟩,hq,h⟩:=ob h;cases h;obtain⟨_,_,_,_,_,rfl,hg,hm,_,d,n1,n2⟩:=qk rc o hq;exact AO .tuple Gp hg hm `k d `d `d (bK n1) (dR n2)
noncomputable def Dz:fS:=λR g e=>(cB "list" R g e).bind λq=>some (aX (.list (g.cl e.pos)) q.2)
def Bo:SE Dz:=λ{fa n R} rc {g X} o {a ga} h=>by
 obtain⟨⟨as,gs⟩,hq,h⟩:=ob h;cases h;obtain⟨_,_,_,_,_,rfl,hg,hm,_,d,n1,n2⟩:=qk rc o hq;exact AO (.list _) (JQ _) hg hm `k d `d `d (bK n1) (dR n2)
noncomputable def cR (R:Rc)(g:G)(nm:Str)(e:Expr):Option (Expr×GE):=pS e λx es _=>n1 es λa=>if x=nm/\jG g x=true/\(match g.T.lookup x with|some .bl=>true|_=>false)=true/\0<g.lv/\notStar a=true then(R.e g a).bind λy=>some (a,y) else none
def yu {fa:Fa}{n:Nat}{R:Rc}{nm:Str}(rc:km fa n R){g:G}{X:Cx}(o:eZ fa n g X){e a:Expr}{ga:GE}(h:cR R g nm e=some (a,ga)):∃p pos,e=.Call (.Name nm p) [a] [] pos/\Gl X nm/\X.mg nm=none/\0<g.lv/\DE fa X a ga/\starEach [a] X.env=[(false,eval a X.env)]:=by
 replace h:=jt h;obtain⟨x,q,es,p,rfl,h⟩:=h;replace h:=eR h;obtain⟨a,rfl,h⟩:=h;replace h:=oi h;obtain⟨⟨rfl,c1,c2,c3,c4⟩,h⟩:=h;obtain⟨y,hy,h⟩:=ob h;cases h;exact{_,_,rfl,(dm o c1).1,o.T.bl (nU c2),c3,rc.e o hy,bK c4}
noncomputable def yW:fS:=λR g e=>pS e λx es p=>n1 es λb=>if x="list"/\jG g x=true/\(match g.T.lookup x with|some .bl=>true|_=>false)=true then(cR R g "range" b).bind λq=>some (mS (g.cl p) q.2) else none
def yV:SE yW:=λ{fa n R} rc {g X} o {a ga} h=>by
 replace h:=jt h;obtain⟨x,q,es,p,rfl,h⟩:=h;replace h:=eR h;obtain⟨b,rfl,h⟩:=h;replace h:=oi h;obtain⟨⟨rfl,c1,c2⟩,h⟩:=h;obtain⟨⟨b,y⟩,hq,h⟩:=ob h;cases h;obtain⟨_,_,rfl,hg,hm,lv,d,hs⟩:=yu rc o hq;exact FA _ (o.calm lv) d (dm o c1).1 (o.T.bl (nU c2)) hg hm hs rfl
noncomputable def Bu (x:Str):Option Ty:=if x="int" then some .int else if x="bool" then some .bool else if x="str" then some .str else if x="tuple" then some .tuple else if x="list" then some .list else none
def Fd {x:Str}{t:Ty}(h:Bu x=some t):bootBuiltins x=some (.type (tyName t))/\(∀c,t≠.own c)/\x≠"__name__"/\(x==("__debug__":Str))=false:=by
 unfold Bu at h;split at h
 ·subst x;cases h;exact{`k,(λ_ z=>nomatch z),`d,`d}
 split at h
 ·subst x;cases h;exact{`k,(λ_ z=>nomatch z),`d,`d}
 split at h
 ·subst x;cases h;exact{`k,(λ_ z=>nomatch z),`d,`d}
 split at h
 ·subst x;cases h;exact{`k,(λ_ z=>nomatch z),`d,`d}
 split at h
 ·subst x;cases h;exact{`k,(λ_ z=>nomatch z),`d,`d}
 ·cases h
noncomputable def cI (R:Rc)(g:G)(e:Expr):Option (Str×GE):=pS e λy es _=>n2 es λa b=>nName b λx _=>if y="isinstance"/\jG g y=true/\(match g.T.lookup y with|some .bl=>true|_=>false)=true/\jG g x=true/\notStar a=true then(R.e g a).bind λz=>some (x,z) else none
def EE {fa:Fa}{n:Nat}{R:Rc}(rc:km fa n R){g:G}{X:Cx}(o:eZ fa n g X){e:Expr}{x:Str}{ga:GE}(h:cI R g e=some (x,ga)):∃p q a pos,e=.Call (.Name "isinstance" p) [a,.Name x q] [] pos/\Gl X "isinstance"/\X.mg "isinstance"=none/\Gl X x/\(x==("__debug__":Str))=false/\DE fa X a ga/\starEach [a,.Name x q] X.env=(false,eval a X.env)::starEach [.Name x q] X.env:=by
 replace h:=jt h;obtain⟨y,q,es,p,rfl,h⟩:=h;replace h:=je h;obtain⟨a,b,rfl,h⟩:=h;replace h:=dj h;obtain⟨x,q2,rfl,h⟩:=h;replace h:=oi h;obtain⟨⟨rfl,c1,c2,c3,c4⟩,h⟩:=h;obtain⟨z,hz,h⟩:=ob h;cases h;exact{_,_,_,_,rfl,(dm o c1).1,o.T.bl (nU c2),(dm o c3).1,(dm o c3).2,rc.e o hz,bK c4}
noncomputable def DC:fS:=λR g e=>(cI R g e).bind λq=>if (match g.T.lookup q.1 with|some .bl=>true|_=>false)=true then(Bu q.1).bind λt=>some (bL t q.2) else none
def Bp:SE DC:=λ{fa n R} rc {g X} o {a ga} h=>by
 obtain⟨⟨x,z⟩,hq,h⟩:=ob h;obtain⟨c,h⟩:=oi h;obtain⟨t,ht,h⟩:=ob h;cases h;obtain⟨_,_,_,_,rfl,hg,hm,hx,hd,d,hs⟩:=EE rc o hq;obtain⟨b1,b2,b3,b4⟩:=Fd ht;exact Kb t b2 d hg hm `k hx (o.T.bl (nU c)) b1 b3 b4 hs
noncomputable def yY:fS:=λR g e=>(cI R g e).bind λq=>match g.T.lookup q.1 with
 |some (.xc k)=>some (cf (some k) q.2)
 |some (.xi k)=>some (cf (some k) q.2)
 |some (.xk k)=>some (cf (some k) q.2)
 |some .de=>some (cf none q.2)
 |some .bl=>if q.1="ValueError" then some (cf none q.2) else none
 |_=>none
def yX:SE yY:=λ{fa n R} rc {g X} o {a ga} h=>by
 obtain⟨⟨x,z⟩,hq,k⟩:=ob h;clear h;obtain⟨_,_,_,_,rfl,hg,hm,hx,hd,d,hs⟩:=EE rc o hq;split at k
 ·next e=>cases k;obtain⟨C,h1,h2,_⟩:=o.T.xc e;exact qB _ o.T.xcs ⟨C,h1,h2⟩ d hg hm hx hd hs
 ·next e=>cases k;exact qB _ o.T.xcs (o.T.xi e).2 d hg hm hx hd hs
 ·next e=>cases k;exact qB _ o.T.xcs (o.T.xk e) d hg hm hx hd hs
 ·next e=>cases k;exact FD o.T.xcs (o.T.de e) d hg hm hx hd hs
 ·next e=>
  obtain⟨c,h⟩:=oi k;cases h;have c:x="ValueError":=c;subst c;exact FC o.T.xcs d hg hm hx (o.T.bl e) hs
 ·cases k
noncomputable def DF:fS:=λR g e=>pS e λx es _=>nC es λa es=>if 0<g.lv then(match vr g x with
 |some i=>(cA (R.e g) (a::es)).bind λgs=>some (mT i g.c gs)
 | none => if jG g x = true then(match g.T.lookup x with
   |some (.fn i _)=>(cA (R.e g) (a::es)).bind λgs=>some (aq i g.c gs)
   |_=>none) else none) else none
def Br:SE DF:=λ{fa n R} rc {g X} o {a ga} h=>by
 replace h:=jt h;obtain⟨x,q,es,p,rfl,h⟩:=h;replace h:=jd h;obtain⟨a,es,rfl,h⟩:=h
 ·obtain⟨lv,h⟩:=oi h;split at h
  ·next e=>
   obtain⟨gs,hgs,h⟩:=ob h;cases h;obtain⟨d,ns⟩:=kO (rc.e o) hgs;rw[PF,OB] at ns;obtain⟨a,b,c1,c2⟩:=Dv o e;exact GV (o.C lv) (o.hr lv) a b d c1 c2 (bK ns.1) (dR ns.2)
  ·obtain⟨c,h⟩:=oi h;split at h
   ·next e=>
    obtain⟨gs,hgs,h⟩:=ob h;cases h;obtain⟨d,ns⟩:=kO (rc.e o) hgs;rw[PF,OB] at ns;exact Kd (o.C lv _) (o.hr lv) (dm o c).1 (o.T.fn e) d (dm o c).2 (bK ns.1) (dR ns.2)
   ·cases h
noncomputable def Dq:fS:=λR g e=>(pS e λx es _=>nC es λa es=>if 2<=g.lv/\jG g x=true then(match g.T.lookup x with
 |some (.fn i true)=>(cA (R.e g) (a::es)).bind λgs=>some (dE i g.c gs)
 |_=>none) else none).or (Cp e λc a b _=>(R.x g a).bind λx=>(R.x g b).bind λy=>(R.t g c).bind λt=>some (yi t x y))
def Ba:SX Dq:=λ{fa n R} rc {g X} o {a ga} h=>by
 replace h:=cp h;rcases h with h|h
 ·replace h:=jt h;obtain⟨x,q,es,p,rfl,h⟩:=h;replace h:=jd h;obtain⟨a,es,rfl,h⟩:=h;replace h:=oi h;obtain⟨⟨lv,c⟩,h⟩:=h;split at h
  ·next e=>
   replace h:=ob h;obtain⟨gs,hgs,h⟩:=h;cases h;obtain⟨d,ns⟩:=kO (rc.e o) hgs;rw[PF,OB] at ns;exact x_call _ (o.C `a) (o.hr `a) (o.top lv).1 (dm o c).1 (o.T.fn e) d (dm o c).2 ns.1 ns.2
  ·cases h
 ·replace h:=wD h;obtain⟨c,a,b,p,rfl,h⟩:=h;obtain⟨x,hx,h⟩:=ob h;obtain⟨y,hy,h⟩:=ob h;obtain⟨t,ht,h⟩:=ob h;cases h;exact KA (rc.t o ht) (rc.x o hx) (rc.x o hy)
def HY {n:Nat}{A:Pu}(h:cv (n+4) A):cv 2 A:=h.mono `a
def nE:Expr->Bool
 |.Call ..=>false
 |_=>true
def iZ {a:Expr}{m:Str}{env:Po}{w:Sem Oz}(h:nE a=true):attributeBase a m env w=w:=by
 cases a<;>first|rfl|cases h
noncomputable def Hr:fS:=λR g e=>Jm e λa m d q=>xJ d (if nE a=true/\q=true then(if m="count" then(R.e g a).bind λx=>some (yk x) else if m="index" then(R.e g a).bind λx=>some (yj x) else none) else none)
def E9:SE Hr:=λ{fa n R} rc {g X} o {a ga} h=>by
 replace h:=Ag h;obtain⟨a,m,q,d,p,rfl,h⟩:=h;replace h:=uH h;obtain⟨_,_,rfl,h⟩:=h;replace h:=oi h;obtain⟨⟨c1,c2⟩,h⟩:=h;split at h
 ·next e0=>subst e0;replace h:=ob h;obtain⟨x,hx,h⟩:=h;cases h;exact Ie (rc.e o hx) (iZ c1) c2
 ·replace h:=oi h;obtain⟨rfl,k⟩:=h;obtain⟨x,hx,k⟩:=ob k;cases k;exact H9 (rc.e o hx) (iZ c1) c2
noncomputable def DG:fS:=λR g e=>xO e λa f _=>if nE a=true/\f∈g.xf then(R.e g a).bind λx=>some (ki f x) else none
def Bs:SE DG:=λ{fa n R} rc {g X} o {a ga} h=>by
 replace h:=uM h;obtain⟨a,f,p,rfl,h⟩:=h;obtain⟨⟨c1,c2⟩,h⟩:=oi h;obtain⟨x,hx,h⟩:=ob h;cases h;exact FI _ o.T.xcs (o.xf _ c2) (rc.e o hx) (iZ c1)
noncomputable def Mi:fS:=λR g e=>Ji e λl _=>nC l λa l=>n2 l λb c=>Cn a λz=>MC b λb=>Cn c λy=>(R.e g b).bind λx=>some (JO z y x)
def Hq:SE Mi:=λ{fa n R} rc {g X} o {a ga} h=>by
 replace h:=Gb h;obtain⟨l,p,rfl,h⟩:=h;replace h:=jd h;obtain⟨a,l,rfl,h⟩:=h;replace h:=je h;obtain⟨b,c,rfl,h⟩:=h;replace h:=wB h;obtain⟨z,_,_,rfl,h⟩:=h;replace h:=Jl h;obtain⟨b,_,rfl,h⟩:=h;replace h:=wB h;obtain⟨y,_,_,rfl,h⟩:=h;obtain⟨x,hx,h⟩:=ob h;cases h;exact Nm (rc.e o hx)
noncomputable def Dt:vE:=λR g _ e=>(cR R g "range" e).bind λq=>some (dn q.2)
def Bj:SW Dt:=λ{fa n R} rc {g X} o {t a ga} h=>by
 obtain⟨⟨b,y⟩,hq,h⟩:=ob h;cases h;obtain⟨_,_,rfl,hg,hm,_,d,hs⟩:=yu rc o hq;exact GN d hg hm hs
noncomputable def Du:vE:=λR g t e=>oM t λ_ _ _=>(cR R g "enumerate" e).bind λq=>some (iF q.2)
def Bk:SW Du:=λ{fa n R} rc {g X} o {t a ga} h=>by
 replace h:=g9 h;obtain⟨_,_,_,rfl,h⟩:=h;obtain⟨⟨b,y⟩,hq,h⟩:=ob h;cases h;obtain⟨_,_,rfl,hg,hm,_,d,hs⟩:=yu rc o hq;exact GO d hg hm hs
noncomputable def cN (R:Rc)(g:G)(nm:Str)(e:Expr):Option (List Expr):=pS e λx es _=>if x=nm/\jG g x=true/\(match g.T.lookup x with|some .bl=>true|_=>false)=true/\0<g.lv/\es.all notStar=true then some es else none
def ED {fa:Fa}{n:Nat}{R:Rc}{nm:Str}{g:G}{X:Cx}(o:eZ fa n g X){e:Expr}{es:List Expr}(h:cN R g nm e=some es):∃p pos,e=.Call (.Name nm p) es [] pos/\Gl X nm/\X.mg nm=none/\es.all notStar=true:=by
 replace h:=jt h;obtain⟨x,q,es,p,rfl,h⟩:=h;replace h:=oi h;obtain⟨⟨rfl,c1,c2,c3,c4⟩,h⟩:=h;cases h;exact{_,_,rfl,(dm o c1).1,o.T.bl (nU c2),c4}
def nr {env:Po}:∀{es:List Expr},es.all notStar=true->starEach es env=es.map λa=>(false,eval a env)
 |[],_=>rfl
 | a :: es, h => by
   rw[PF,OB] at h;rw[bK h.1,nr h.2];rfl
noncomputable def Ds:vE:=λR g t e=>oM t λ_ _ _=>(cN R g "zip" e).bind λes=>n2 es λa b=>(R.e g a).bind λx=>(R.e g b).bind λy=>some (nJ x y)
def Bi:SW Ds:=λ{fa n R} rc {g X} o {t a ga} h=>by
 replace h:=g9 h;obtain⟨_,_,_,rfl,h⟩:=h;obtain⟨es,hq,k⟩:=ob h;clear h;obtain⟨_,_,rfl,hg,hm,ns⟩:=ED o hq;replace k:=je k;obtain⟨a,b,rfl,k⟩:=k;obtain⟨x,hx,k⟩:=ob k;obtain⟨y,hy,k⟩:=ob k;cases k;exact GK (rc.e o hx) (rc.e o hy) hg hm (nr ns) (nr (Qz.mp (PF ▸ ns)).2)
noncomputable def Dr:vE:=λR g t e=>oM t λ_ _ _=>(cN R g "zip" e).bind λes=>nC es λa es=>n2 es λb c=>(R.e g a).bind λx=>(R.e g b).bind λy=>(R.e g c).bind λz=>some (qb x y z)
def Bh:SW Dr:=λ{fa n R} rc {g X} o {t a ga} h=>by
 replace h:=g9 h;obtain⟨_,_,_,rfl,h⟩:=h;obtain⟨es,hq,k⟩:=ob h;clear h;obtain⟨_,_,rfl,hg,hm,ns⟩:=ED o hq;replace k:=jd k;obtain⟨a,es,rfl,k⟩:=k;replace k:=je k;obtain⟨b,c,rfl,k⟩:=k;obtain⟨x,hx,k⟩:=ob k;obtain⟨y,hy,k⟩:=ob k;obtain⟨z,hz,k⟩:=ob k;cases k;have n2:=(Qz.mp (PF ▸ ns)).2;have n3:=(Qz.mp (PF ▸ n2)).2;exact GJ (rc.e o hx) (rc.e o hy) (rc.e o hz) hg hm (nr ns) (nr n2) (nr n3)
noncomputable def Hh:vE:=λR g _ e=>(R.e g e).bind λx=>some (if g.tx e.pos=true then qc x else eF x)
def EZ:SW Hh:=λ{fa n R} rc {g X} o {t a ga} h=>by
 obtain⟨x,hx,h⟩:=ob h;cases h;split
 ·exact GL (rc.e o hx)
 ·exact J7 (rc.e o hx)
def mQ:Expr->Bool
 |.Set ..=>false
 |_=>true
def AH {a:Expr}{env:Po}(h:mQ a=true)(x:Oz):foldedSetIterable a env x=pure x:=by
 cases a<;>first|rfl|cases h
noncomputable def Cc:Expr->List Str
 |.Name x _=>[x]
 |.Tuple es _ _=>es.filterMap fun|.Name x _=>some x|_=>none
 |_=>[]
noncomputable def vn (g:G)(own:List Str):List Str:=g.N.map λx=>if own.contains x then x++("%":Str) else x
noncomputable def B2 (scope sc:Scope):Scope:={scope with names:=scope.names.map λ(n,k)=>if (k==.free&&sc.kind==.function&&sc.names.lookup n==some .cell) then(n,.cell) else(n,k)}
noncomputable def G.inC (g:G)(own:List Str)(scope:Scope):G:={g with N:=own++vn g own,sc:=B2 scope g.sc,lv:=1}
noncomputable def zY (g:G)(own:List Str)(scope:Scope):Prop:=0<g.lv/\scope.kind=.function/\qZ (vn g own) g.N g.sc scope=true/\(own++vn g own).Nodup
instance (g:G) (own:List Str) (scope:Scope):Decidable (zY g own scope):=by unfold zY;infer_instance
def EC {fa:Fa}{n:Nat}{g:G}{X:Cx}(o:eZ fa n g X){own:List Str}{scope:Scope}(c:zY g own scope):jy X own (vn g own) scope/\∀cl C fp s H,eZ fa n (g.inC own scope) (iG X own (vn g own) scope cl C fp s H):=by
 obtain⟨c1,c2,c3,c4⟩:=c;refine{AW c2 o.sc o.N c3,λcl C fp s H=>{rfl,c4,?_,o.T,o.tw,o.xf,(λz=>absurd rfl z),λ_=>o.calm c1,λ_=>o.C c1,λ_=>o.hr c1,(λz=>absurd (show 2<=1 from z) `d),(λz=>nomatch z)}}
 show relabel scope X.env=B2 scope g.sc;unfold relabel B2 Env.kindOf;rw[o.sc]
structure Kw (fa:Fa) (X:Cx) (e:Expr) (k:Nat) (t:dB) (gw:GW) (gb:GB):Prop where
 ex:∃elt tg iter ifs rest scope pos own bn W body,e=.ListComp elt ({tg,iter,ifs,0}::rest) scope pos/\k=own.length/\jy X own bn scope/\DI fa X tg iter gw/\Block fa X own bn scope tg t W body gb/\ql X elt tg iter ifs rest scope pos body/\(∀i∈W,i∉slots t)/\(∀i∈slots t++W,i<own.length)/\∀x,foldedSetIterable iter X.env x=pure x
noncomputable def cC (R:Rc)(g:G)(e:Expr):Option (Nat×dB×GW×GB):=Jh e λelt gens scope _=>(n1 gens λc=>nG c λtg iter ifs=>let own:=Cc tg
 if zY g own scope/\mQ iter=true then(R.w g tg iter).bind λw=>(cG (g.inC own scope) tg).bind λt=>(R.e (g.inC own scope) elt).bind λx=>if (slots t).all (· < own.length)=true then(n0 ifs (some (own.length,t,w,bR x))).or (n1 ifs λc=>(R.t (g.inC own scope) c).bind λq=>some (own.length,t,w,lG q (bR x))) else none else none).or
 (n2 gens λc d=>nG c λtg iter ifs=>nG d λt2 i2 ifs2=>let own:=Cc tg++Cc t2
  n0 ifs (n0 ifs2 (if zY g own scope/\mQ iter=true/\mQ i2=true then(R.w g tg iter).bind λw=>(cG (g.inC own scope) tg).bind λt=>(R.w (g.inC own scope) t2 i2).bind λw2=>(cG (g.inC own scope) t2).bind λu=>(R.e (g.inC own scope) elt).bind λx=>if (slots t++slots u).all (· < own.length)=true/\(slots u).all (λi=>!(slots t).contains i)=true then some (own.length,t,w,u4 u w2 (bR x)) else none else none)))
def EF {fa:Fa}{n:Nat}{R:Rc}(rc:km fa n R){g:G}{X:Cx}(o:eZ fa n g X){e:Expr}{k:Nat}{t:dB}{gw:GW}{gb:GB}(h:cC R g e=some (k,t,gw,gb)):Kw fa X e k t gw gb:=by
 replace h:=Af h;obtain⟨elt,gens,scope,p,rfl,h⟩:=h;replace h:=cp h;rcases h with h|h
 ·replace h:=eR h;obtain⟨c,rfl,h⟩:=h;replace h:=xK h;obtain⟨tg,iter,ifs,rfl,h⟩:=h;replace h:=oi h;obtain⟨⟨c,cs⟩,h⟩:=h;replace h:=ob h;obtain⟨w,hw,h⟩:=h;replace h:=ob h;obtain⟨t,ht,h⟩:=h;replace h:=ob h;obtain⟨x,hx,h⟩:=h;replace h:=oi h;obtain⟨c2,h⟩:=h;obtain⟨S,O⟩:=EC o c;replace h:=cp h;rcases h with h|h
  ·replace h:=iu h;obtain⟨rfl,h⟩:=h;cases h;exact{_,_,_,_,_,_,_,_,_,[],_,rfl,rfl,S,rc.w o hw,{λcl C fp s H=>mn (O cl C fp s H) ht,λcl C fp s H a=>vd (rc.e (O cl C fp s H) hx)},(λit a env=>Bx _ _ _ [] _ _ (.ref it) (.ref a) env),(λi h=>nomatch h),(by simpa using ot c2),AH cs}
  ·replace h:=eR h;obtain⟨d,rfl,h⟩:=h;replace h:=ob h;obtain⟨q,hq,h⟩:=h;cases h;exact{_,_,_,_,_,_,_,_,_,[],_,rfl,rfl,S,rc.w o hw,{λcl C fp s H=>mn (O cl C fp s H) ht,λcl C fp s H a=>LL (rc.t (O cl C fp s H) hq) (vd (rc.e (O cl C fp s H) hx))},(λit a env=>turn_if _ _ _ _ _ _ (.ref it) (.ref a) env),(λi h=>nomatch h),(by simpa using ot c2),AH cs}
 ·replace h:=je h;obtain⟨c,d,rfl,h⟩:=h;replace h:=xK h;obtain⟨tg,iter,ifs,rfl,h⟩:=h;replace h:=xK h;obtain⟨t2,i2,ifs2,rfl,h⟩:=h;replace h:=iu h;obtain⟨rfl,h⟩:=h;replace h:=iu h;obtain⟨rfl,h⟩:=h;obtain⟨⟨c,cs,cs2⟩,h⟩:=oi h;obtain⟨w,hw,h⟩:=ob h;obtain⟨t,ht,h⟩:=ob h;obtain⟨w2,hw2,h⟩:=ob h;obtain⟨u,hu,h⟩:=ob h;obtain⟨x,hx,h⟩:=ob h;obtain⟨⟨c2,c3⟩,h⟩:=oi h;cases h;obtain⟨S,O⟩:=EC o c;exact{_,_,_,_,_,_,_,_,_,slots u,_,rfl,rfl,S,rc.w o hw,{λcl C fp s H=>mn (O cl C fp s H) ht,λcl C fp s H a=>J9 (X:=iG X _ _ _ cl C fp s H) rfl (o.calm c.1) (rc.w (O cl C fp s H) hw2) (mn (O cl C fp s H) hu) (rc.e (O cl C fp s H) hx) (AH cs2)},(λit a env=>Bv _ _ _ _ _ _ _ (.ref it) (.ref a) env),zy c3,ot c2,AH cs}
noncomputable def DD:fS:=λR g e=>if 0<g.lv then(cC R g e).bind λq=>some (bU (g.cl e.pos) q.1 q.2.1 q.2.2.1 q.2.2.2) else none
def Bq:SE DD:=λ{fa n R} rc {g X} o {a ga} h=>by
 obtain⟨lv,h⟩:=oi h;obtain⟨⟨k,t,w,b⟩,hq,h⟩:=ob h;cases h;obtain⟨elt,tg,iter,ifs,rest,scope,pos,own,bn,W,body,rfl,rfl,S,hi,B,T,h1,h2,h3⟩:=(EF rc o hq).ex;exact Kc _ S (o.calm lv) hi B T h1 h2 h3
noncomputable def n9 (f:Stmt->Option GS):List Stmt->Option GS
 |[]=>some aj
 |a::r=>(f a).bind λx=>(n9 f r).bind λy=>some (ag x y)
def iH {fa:Fa}{X:Cx}{f:Stmt->Option GS}(hf:∀{a:Stmt}{ga:GS},f a=some ga->DS fa X a ga):∀{ss:List Stmt}{gs:GS},n9 f ss=some gs->kZ fa X ss gs
 |[],_,h=>by cases h;exact GD
 | a :: r, _, h => by
   obtain⟨x,hx,h⟩:=ob h;obtain⟨y,hy,h⟩:=ob h;cases h;exact CW (hf hx) (iH hf hy)
noncomputable def wy:Expr->Bool
 |.ListComp ..=>false
 |.SetComp ..=>false
 |.DictComp ..=>false
 |_=>true
def wz {a:Expr}{t:Option Expr}{l:Nat}{env:Po}(h:wy a=true):swapsWith a t l env=pure false:=by
 cases a<;>first|rfl|cases h
noncomputable def Kl (g:G)(tg a:Expr):Bool:=match a with
 |.ListComp ..=>(match tg with|.Name y _=>g.sc.names.lookup y==some .cell|_=>false)
 |.Tuple ..=>(match tg with|.Name ..=>true|_=>false)
 |.SetComp ..=>false
 |.DictComp ..=>false
 |_=>true
def Kk {fa:Fa}{n:Nat}{g:G}{X:Cx}(o:eZ fa n g X){tg a:Expr}{t:dB}{l:Nat}(c:Kl g tg a=true)(ht:cG g tg=some t):swapsWithSole [tg] a l X.env=pure false/\swappedStores [tg] a X.env=pure none/\(assignEach [tg] X.env).map (·.2)=[assign tg X.env]:=by
 refine{?_,?_,?_}
 ·cases a<;>first|rfl|cases c|skip
  cases tg<;>first|cases c|skip
  next y p=>
  have e:=eq_of_beq c;have hk:(X.env.kindOf y==some .local)=false:=by unfold Env.kindOf;rw[o.sc,e];rfl
  show(pure (X.env.blockKind==.function&&X.env.kindOf y==some .local&&_&&_):Sem Bool)=pure false;rw[hk,Bool.and_false,Bool.false_and,Bool.false_and]
 ·replace ht:=cp ht;rcases ht with h|h
  ·replace h:=dj h;obtain⟨_,_,rfl,_⟩:=h;cases a<;>first|rfl|cases c
  ·replace h:=g9 h;obtain⟨_,_,_,rfl,_⟩:=h;cases a<;>first|rfl|cases c
 ·replace ht:=cp ht;rcases ht with h|h
  ·replace h:=dj h;obtain⟨_,_,rfl,_⟩:=h;rfl
  ·replace h:=g9 h;obtain⟨_,_,_,rfl,_⟩:=h;rfl
noncomputable def Hb:oh:=λR g st=>xv st λts a _=>n1 ts λtg=>if Kl g tg a=true then(cG g tg).bind λt=>((R.x g a).bind λx=>some (jb t x)).or ((R.e g a).bind λx=>some (aI t x)) else none
def EW:SS Hb:=λ{fa n R} rc {g X} o {a ga} h=>by
 replace h:=qx h;obtain⟨ts,a,p,rfl,h⟩:=h;replace h:=eR h;obtain⟨tg,rfl,h⟩:=h;obtain⟨c,h⟩:=oi h;obtain⟨t,ht,h⟩:=ob h;obtain⟨a1,a2,a3⟩:=Kk (l:=p.line) o c ht;replace h:=cp h;rcases h with h|h
 ·obtain⟨x,e,h⟩:=ob h;cases h;exact HP (rc.x o e) (mn o ht) a1 a2 a3
 ·obtain⟨x,hx,h⟩:=ob h;cases h;exact J5 (rc.e o hx) (mn o ht) a1 a2 a3
noncomputable def Dp:oh:=λR g st=>xv st λts d _=>n1 ts λt=>nName t λy py=>Jh d λelt gens scope p=>if 2<=g.lv/\g.sc.names.lookup y=some .local/\(py.line==p.line)=true/\(scope.names.any λ(n,k)=>n==y&&(k==.local||k==.cell))=false then(cC R g (.ListComp elt gens scope p)).bind λq=>(g.N.findIdx? (·==y)).bind λi=>some (aI (.one i) (bU (g.cl p) q.1 q.2.1 q.2.2.1 q.2.2.2)) else none
def A9:SS Dp:=λ{fa n R} rc {g X} o {a ga} h=>by
 replace h:=qx h;obtain⟨ts,d,_,rfl,h⟩:=h;replace h:=eR h;obtain⟨t,rfl,h⟩:=h;replace h:=dj h;obtain⟨y,py,rfl,h⟩:=h;replace h:=Af h;obtain⟨_,_,sc0,p,rfl,h⟩:=h
 ·next=>
  obtain⟨⟨lv,c1,c2,c3⟩,h⟩:=oi h;obtain⟨⟨k,t,w,b⟩,hq,h⟩:=ob h;obtain⟨i,hi,h⟩:=ob h;cases h;obtain⟨elt,tg,iter,ifs,rest,scope,pos,own,bn,W,body,e0,rfl,S,hi',B,T,h1,h2,h3⟩:=(EF rc o hq).ex;cases e0;have hl:X.env.scope.names.lookup y=some .local:=by rw[o.sc];exact c1
  refine yo _ S (o.calm `a) hi' B T h1 h2 h3 (o.N ▸ o.nd) (tf o hi) hl ?_
  have hk:=(o.top lv).2.2.2;have hb:(X.env.blockKind==.function)=true:=by unfold Env.blockKind;rw[hk];rfl
  have hkd:(X.env.kindOf y==some .local)=true:=by unfold Env.kindOf;rw[hl];rfl
  show(pure (X.env.blockKind==.function&&X.env.kindOf y==some .local&&(py.line==p.line)&&!(sc0.names.any λ(n,k)=>n==y&&(k==.local||k==.cell))):Sem Bool)=pure true;rw[hb,hkd,c2,c3];rfl
noncomputable def Ha:oh:=λR g st=>xv st λts d _=>n1 ts λt=>uI t λa b _=>if pQ b=true then(R.e g a).bind λx=>(R.e g b).bind λy=>(R.e g d).bind λz=>some (fF x y z) else none
def EV:SS Ha:=λ{fa n R} rc {g X} o {a ga} h=>by
 replace h:=qx h;obtain⟨ts,d,_,rfl,h⟩:=h;replace h:=eR h;obtain⟨t,rfl,h⟩:=h;replace h:=nF h;obtain⟨a,b,p2,rfl,h⟩:=h
 ·next=>
  obtain⟨c,h⟩:=oi h;obtain⟨x,hx,h⟩:=ob h;obtain⟨y,hy,h⟩:=ob h;obtain⟨z,hz,h⟩:=ob h;cases h;refine J2 (rc.e o hx) (rc.e o hy) (rc.e o hz) (λv=>?_) ?_ ?_ rfl
  ·cases b<;>first|rfl|cases c
  ·cases d<;>rfl
  ·cases d<;>rfl
noncomputable def Hc:oh:=λR g st=>BY st λe _=>Jm e λa m d q=>if m="append"/\nE a=true/\q=true/\notStar d=true then(R.e g a).bind λx=>(R.e g d).bind λy=>some (jB x y) else none
def EX:SS Hc:=λ{fa n R} rc {g X} o {a ga} h=>by
 replace h:=wd h;obtain⟨e,_,rfl,h⟩:=h;replace h:=Ag h;obtain⟨a,m,q,d,p,rfl,h⟩:=h;replace h:=oi h;obtain⟨⟨rfl,c1,c2,c3⟩,h⟩:=h;obtain⟨x,hx,h⟩:=ob h;obtain⟨y,hy,h⟩:=ob h;cases h;exact J6 (rc.e o hx) (rc.e o hy) (iZ c1) c2 (bK c3) rfl
noncomputable def G9:oh:=λR g st=>(BY st λa _=>if wy a=true then((R.x g a).bind λx=>some (iR x)).or ((R.e g a).bind λx=>some (sEx x)) else none).or
 ((Ms st λq _ => match q with
   |none=>some DQ
   |some a=>((R.x g a).bind λx=>some (xu x)).or ((R.e g a).bind λx=>some (aK x))).or
 ((Mv st λ_=>some DR).or
 ((Mw st λc st sf _=>(R.t g c).bind λt=>(n9 (R.s g) st).bind λx=>(n9 (R.s g) sf).bind λy=>some (aQ t x y)).or
 (Mx st λtg a body el _=>n0 el (if g.lv=2/\mQ a=true then(R.w g tg a).bind λw=>(cG g tg).bind λt=>(n9 (R.s g) body).bind λx=>some (dF t w x) else none)))))
def EU:SS G9:=λ{fa n R} rc {g X} o {a ga} h=>by
 replace h:=cp h;rcases h with h|h
 ·replace h:=wd h;obtain⟨a,p,rfl,h⟩:=h;obtain⟨c,h⟩:=oi h;rcases cp h with h|h
  ·obtain⟨x,e,h⟩:=ob h;cases h;exact KW (rc.x o e) (wz c)
  ·obtain⟨x,hx,h⟩:=ob h;cases h;exact LK (rc.e o hx) (wz c)
 replace h:=cp h;rcases h with h|h
 ·replace h:=HR h;obtain⟨q,p,rfl,h⟩:=h;cases q with
  |none=>cases h;exact GF
  | some a =>
    rcases cp h with h|h
    ·obtain⟨x,e,h⟩:=ob h;cases h;exact HM (rc.x o e)
    ·obtain⟨x,hx,h⟩:=ob h;cases h;exact J1 (rc.e o hx)
 replace h:=cp h;rcases h with h|h
 ·replace h:=HU h;obtain⟨p,rfl,h⟩:=h;cases h;exact GG
 replace h:=cp h;rcases h with h|h
 ·replace h:=HW h;obtain⟨c,st,sf,p,rfl,h⟩:=h;obtain⟨t,ht,h⟩:=ob h;obtain⟨x,hx,h⟩:=ob h;obtain⟨y,hy,h⟩:=ob h;cases h;exact J3 (rc.t o ht) (iH (rc.s o) hx) (iH (rc.s o) hy)
 ·replace h:=HX h;obtain⟨tg,a,body,el,p,rfl,h⟩:=h;replace h:=iu h;obtain⟨rfl,h⟩:=h;obtain⟨⟨lv,c⟩,h⟩:=oi h;obtain⟨w,hw,h⟩:=ob h;obtain⟨t,ht,h⟩:=ob h;obtain⟨x,hx,h⟩:=ob h;cases h;exact J4 (o.po lv) (o.calm `a) (rc.w o hw) (mn o ht) (iH (rc.s o) hx) (AH c)
noncomputable def yJ:oh:=λR g st=>HS st λe c _=>if c.isNone=true then e.bind λe=>pS e λx es _=>nC es λa es=>if 2<=g.lv/\jG g x=true then(match g.T.lookup x with
 |some (.xc k)=>(cA (R.e g) (a::es)).bind λgs=>some (j6 k gs)
 |some (.xi k)=>if notStar a=true/\es.isEmpty=true then(R.e g a).bind λy=>some (g8 k y) else none
 |_=>none) else none else none
def yI:SS yJ:=λ{fa n R} rc {g X} o {a ga} h=>by
 replace h:=Fw h;obtain⟨e,c,_,rfl,h⟩:=h;replace h:=oi h;obtain⟨c,h⟩:=h;rw[PV.mp c];replace h:=ob h;obtain⟨e,rfl,h⟩:=h;replace h:=jt h;obtain⟨x,q,es,p,rfl,h⟩:=h;replace h:=jd h;obtain⟨a,es,rfl,h⟩:=h
 ·obtain⟨⟨lv,c⟩,k⟩:=oi h;clear h;split at k
  ·next e=>
   obtain⟨gs,hgs,k⟩:=ob k;cases k;obtain⟨d,ns⟩:=kO (rc.e o) hgs;rw[PF,OB] at ns;obtain⟨C,h1,h2,h3,_⟩:=o.T.xc e;exact Fu _ ⟨C,h1,h2,h3⟩ (o.top lv).1 (dm o c).1 (o.calm `a) d (dm o c).2 ns.1 ns.2
  ·next e=>
   obtain⟨⟨c1,c2⟩,k⟩:=oi k;obtain⟨y,hy,k⟩:=ob k;cases k;rw[List.isEmpty_iff.mp c2];exact BX _ (o.T.xi e).1 (HY (o.hr `a)) (o.top lv).1 (dm o c).1 (o.calm `a) (rc.e o hy) (dm o c).2 c1
  ·cases k
def uW {fa:Fa}{n:Nat}{g:G}{X:Cx}(o:eZ fa n g X)(lv:2<=g.lv)(pn:List (Addr×Obj))(E:Oz->OD->Prop):eZ fa n {g with lv:=3} (kM X pn E):={o.N,o.nd,o.sc,o.T,o.tw,o.xf,λ_=>o.fn `a,λ_=>o.calm `a,λ_=>o.C `a,λ_=>o.hr `a,λ_=>o.top lv,(λz=>nomatch z)}
def uX {fa:Fa}{n:Nat}{g:G}{X:Cx}(o:eZ fa n g X)(lv:2<=g.lv)(v:Oz)(E:Oz->OD->Prop):eZ fa n {g with lv:=0} (qa X v E):={o.N,o.nd,o.sc,o.T,o.tw,o.xf,λ_=>o.fn `a,(λz=>absurd (show 0<0 from z) `d),(λz=>absurd (show 0<0 from z) `d),(λz=>absurd (show 0<0 from z) `d),(λz=>absurd (show 2<=0 from z) `d),(λz=>nomatch z)}
noncomputable def G8:oh:=λR g st=>HQ st λbody hs el fi _=>n0 el (n0 fi (n1 hs fun
 | .ExceptHandler t nm su _ => t.bind λt => nName t λx _ => nm.bind λnm => nC su λb suite => if 2 <= g.lv /\ jG g x = true /\ g.sc.names.lookup nm = some .local then(match g.T.lookup x with
   |some .de=>(g.N.findIdx? (·==nm)).bind λi=>(n9 (R.s {g with lv:=3}) body).bind λu=>(n9 (R.s {g with lv:=0}) (b::suite)).bind λv=>some (oy u i v)
   |_=>none) else none))
def ET:SS G8:=λ{fa n R} rc {g X} o {a ga} h=>by
 replace h:=zF h;obtain⟨body,hs,el,fi,_,rfl,h⟩:=h;replace h:=iu h;obtain⟨rfl,h⟩:=h;replace h:=iu h;obtain⟨rfl,h⟩:=h;replace h:=eR h;obtain⟨hd,rfl,h⟩:=h;obtain⟨t,nm,su,_⟩:=hd;replace h:=ob h;obtain⟨t,rfl,h⟩:=h;replace h:=dj h;obtain⟨x,_,rfl,h⟩:=h;replace h:=ob h;obtain⟨nm,rfl,h⟩:=h;replace h:=jd h;obtain⟨b,suite,rfl,h⟩:=h
 ·obtain⟨⟨lv,c,c2⟩,k⟩:=oi h;clear h;split at k
  ·next e=>
   obtain⟨i,hi,k⟩:=ob k;obtain⟨u,hu,k⟩:=ob k;obtain⟨v,hv,k⟩:=ob k;cases k;have tp:=o.top lv;exact KU o.T.xcs (o.T.de e) tp.1 tp.2.1 tp.2.2.1 (o.N ▸ o.nd) (tf o hi) (by rw[o.sc];exact c2) (dm o c).1 (dm o c).2 (λpn E=>iH (rc.s (uW o lv pn E)) hu) (λv E=>iH (rc.s (uX o lv v E)) hv)
  ·cases k
noncomputable def yL:oh:=λR g st=>HQ st λbody hs el fi _=>n0 el (n0 fi (n1 hs fun
 |.ExceptHandler t nm su _=>t.bind λt=>oM t λts _ _=>n2 ts λt1 t2=>nName t1 λx _=>nName t2 λy _=>nC su λb suite=>if nm.isNone=true/\2<=g.lv/\jG g x=true/\jG g y=true then(g.tw.find? λq=>q.1==x&&q.2.1==y).bind λq=>(n9 (R.s {g with lv:=3}) body).bind λu=>(n9 (R.s {g with lv:=0}) (b::suite)).bind λv=>some (mF u q.2.2.1 q.2.2.2 v) else none))
def yK:SS yL:=λ{fa n R} rc {g X} o {a ga} h=>by
 replace h:=zF h;obtain⟨body,hs,el,fi,_,rfl,h⟩:=h;replace h:=iu h;obtain⟨rfl,h⟩:=h;replace h:=iu h;obtain⟨rfl,h⟩:=h;replace h:=eR h;obtain⟨hd,rfl,h⟩:=h;obtain⟨t,nm,su,_⟩:=hd;replace h:=ob h;obtain⟨t,rfl,h⟩:=h;replace h:=g9 h;obtain⟨ts,_,_,rfl,h⟩:=h;replace h:=je h;obtain⟨t1,t2,rfl,h⟩:=h;replace h:=dj h;obtain⟨x,_,rfl,h⟩:=h;replace h:=dj h;obtain⟨y,_,rfl,h⟩:=h;replace h:=jd h;obtain⟨b,suite,rfl,h⟩:=h
 ·obtain⟨⟨cn,lv,c,c2⟩,k⟩:=oi h;clear h;rw[PV.mp cn];obtain⟨q,hq,k⟩:=ob k;obtain⟨u,hu,k⟩:=ob k;obtain⟨v,hv,k⟩:=ob k;cases k;have tw:=o.tw q (List.mem_of_find?_eq_some hq);have e:=List.find?_some hq;rw[OB] at e;rw[eq_of_beq e.1,eq_of_beq e.2] at tw;have tp:=o.top lv;exact Fv tw tp.1 tp.2.1 tp.2.2.1 (dm o c).1 (dm o c2).1 (dm o c).2 (dm o c2).2 (λpn E=>iH (rc.s (uW o lv pn E)) hu) (λv E=>iH (rc.s (uX o lv v E)) hv)
structure Ent where
 i:Nat
 x:Str
 st:Stmt
 ps:Nat
 N:List Str
 f:Addr
 pm:Str×Tok
 b:Call->GS
 r:Bool:=false
structure mw where
 T:List (Str×En)
 tw:List (Str×Str×Nat×Nat)
 xf:List Str
 dl:List (Str×List (Str×Nat))
 il:List (Str×Nat)
 cel:List (Nat×Nat×Nat)
 txt:List (Nat×Nat×Nat)
 rs:Rs
 tb:List Ent
noncomputable def mw.g (t:mw)(e:Ent)(c:Call):G:={t.T,t.tw,t.xf,t.cel,t.txt,c,e.N,aW e.st,2}
noncomputable def mw.Pg (t:mw)(i:Nat):Option Df:=(t.tb.find? (·.i==i)).map λe=>⟨e.ps,e.N.length,e.b⟩
noncomputable def mw.rd (t:mw)(c:Call)(e:Ent):Option GS:=n9 ((It t.rs 60).s (t.g e c)) (dA e.st)
noncomputable def CO (e:Ent):Bool:=decide ((aW e.st).kind=.function)&&!(aW e.st).isCoroutine&&!(aW e.st).isGenerator&&decide e.N.Nodup&&((e.N.take e.ps).length==e.ps)&&((e.N.take e.ps).all λx=>(aW e.st).names.lookup x==some .local||(aW e.st).names.lookup x==some .cell)&&((aW e.st).names.all (·.2 != .free))
def qh {e:Ent}(h:CO e=true):ia e.N (e.N.take e.ps) (aW e.st)/\(e.N.take e.ps).length=e.ps:=by
 unfold CO at h;simp only[OB,decide_eq_true_eq,Qx,OJ,Qv,beq_iff_eq,bne_iff_ne] at h;obtain⟨⟨⟨⟨⟨⟨h1,h2⟩,h3⟩,h4⟩,h5⟩,h6⟩,h7⟩:=h;exact{{h1,h2,h3,h4,by rw[h5],h6,h7},h5}
noncomputable def NZ (e:Ent):Option Obj:=some {.type "function",none,.func (PySem.W.fnOf e.x e.x (gx e.st) (dA e.st) (aW e.st) .none .none .none (.str e.pm.1 e.pm.2) none (.ref (e.f-1)) .none),#[]}
def pT {α β:Type}{f g:α->β}{l:List α}(h:l.map f=l.map g){a:α}(m:a∈l):f a=g a:=List.map_inj_left.mp h a m
noncomputable def CP (e:Ent)(us:List Oz)(kV doc pm:Oz)(an:Option Addr)(cdv ct:Oz):Sem (List (Str×Oz)):=bindArgs (PySem.W.fnOf e.x e.x (gx e.st) (dA e.st) (aW e.st) .none kV doc pm an cdv ct) {us,[]}
noncomputable def vG (tb:List Ent)(k:Nat)(us:List Oz):Prop:=∀(kV doc pm:Oz) (an:Option Addr) (cdv ct:Oz),(tb.filter (·.ps==k)).map (λe=>CP e us kV doc pm an cdv ct)=(tb.filter (·.ps==k)).map λe=>pure ((e.N.take e.ps).zip us)
structure yC (t:mw):Prop where
 rs:Dj t.rs
 rd:∀c,t.tb.map (t.rd c)=t.tb.map λe=>some (e.b c)
 sc:t.tb.all CO=true
 ar:t.tb.all (λe=>e.ps==1||e.ps==2||e.ps==3||e.ps==4)=true
 a1:∀a,vG t.tb 1 [a]
 a2:∀a b,vG t.tb 2 [a,b]
 a3:∀a b c,vG t.tb 3 [a,b,c]
 a4:∀a b c d,vG t.tb 4 [a,b,c,d]
structure Kn (K:OA) (tb:List Ent):Prop where
 ns:tb.map (λe=>PySem.W.nsIn K mainGlobals e.x)=tb.map λe=>some (some (.ref e.f))
 lk:tb.map (λe=>K.lookup e.f)=tb.map NZ
 ck:tb.all (λe=>PySem.W.codeIn K (.ref (e.f-1)) e.x&&PySem.W.keepIn K (.ref e.f))=true
def vV {K:OA}{h:Heap}{mg:Str->Option Oz}{tb:List Ent}(k:Kn K tb)(X:K.In h)(G:h.Ns mainGlobals mg){e:Ent}(m:e∈tb):mg e.x=some (.ref e.f)/\∃fd,sN K e.x e.x e.st e.f fd:=by
 have c:=OJ.mp k.ck e m;rw[OB] at c;exact{P8 X G (pT k.ns m),_,AG (pT k.lk m) c.1 c.2}
def BB {t:mw}(T:yC t){e:Ent}(m:e∈t.tb)(kV doc pm:Oz)(an:Option Addr)(cdv ct:Oz):∀us:List Oz,us.length=(e.N.take e.ps).length->CP e us kV doc pm an cdv ct=pure ((e.N.take e.ps).zip us):=by
 have hl:=(qh (OJ.mp T.sc e m)).2;have a:=OJ.mp T.ar e m;have f:∀{k:Nat}{us:List Oz},e.ps=k->vG t.tb k us->CP e us kV doc pm an cdv ct=pure ((e.N.take e.ps).zip us):=λ{k us} hk ao=>pT (ao kV doc pm an cdv ct) (List.mem_filter.mpr {m,by rw[hk];exact beq_self_eq_true k})
 rw[hl];simp only[Qv,beq_iff_eq] at a;rcases a with((a|a)|a)|a
 ·rw[a];exact us1 (p:=λus=>_=_) λx=>a ▸ f a (T.a1 x)
 ·rw[a];exact Mh (p:=λus=>_=_) λx y=>a ▸ f a (T.a2 x y)
 ·rw[a];exact us3 (p:=λus=>_=_) λx y z=>a ▸ f a (T.a3 x y z)
 ·rw[a];exact us4 (p:=λus=>_=_) λx y z u=>a ▸ f a (T.a4 x y z u)
section
variable{fa:Fa}{P:OX}{w:O6}{K:OA}{mg:Str->Option Oz}{base:Heap}{t:mw}
def tS (T:yC t)(TO:EJ fa P w K mg base t.T)(tw:∀q∈t.tw,w9 fa K mg q.1 q.2.1 q.2.2.1 q.2.2.2)(xf:∀f∈t.xf,w5 fa K f){e:Ent}(m:e∈t.tb){ad:Addr}(call:Call)(n:Nat)(cdv:Oz)(A:Pu)(outer:List Po)(s:OD)(H:Hp)(E:XK)
 (C:∀f,jz fa P w K mg base n f (call f)) (hr:cv (n+4) (A.deeper (envOfC e.x (aW e.st) s.heap.objs.size ad cdv))):kZ fa (fL (gJ P w) P w K mg base e.N e.x (aW e.st) ad cdv A outer s H E) (dA e.st) (e.b call):=by
 have S:=(qh (OJ.mp T.sc e m)).1;exact iH ((EO (n:=n) (fa:=fa) T.rs 60).s (g:=t.g e call) (X:=fL (gJ P w) P w K mg base e.N e.x (aW e.st) ad cdv A outer s H E) {rfl,S.nd,rfl,TO,tw,xf,λ_ _=>rfl,λ_=>rfl,λ_=>C,λ_=>hr,λ_=>⟨rfl,rfl,rfl,S.kind⟩,λ_=>PassesOwn.leaving}) (pT (T.rd call) m)
def BA (T:yC t)(k:Kn K t.tb){h:Heap}(X:K.In h)(G:h.Ns mainGlobals mg)(TO:EJ fa P w K mg base t.T)(tw:∀q∈t.tw,w9 fa K mg q.1 q.2.1 q.2.2.1 q.2.2.2)(xf:∀f∈t.xf,w5 fa K f)(hf:t.tb.all (λe=>fa e.i==some e.f)=true) :
 ∀f d,t.Pg f=some d->yH fa P w K mg base f d:=by
 intro f d e;unfold mw.Pg at e;obtain⟨en,he,rfl⟩:=OU.mp e;have m:=List.mem_of_find?_eq_some he;have ei:en.i=f:=by have:=List.find?_some he;simpa using this
 obtain⟨_,fd,F⟩:=vV k X G m;obtain⟨S,hl⟩:=qh (OJ.mp T.sc en m);have fe:fa f=some en.f:=by rw[<- ei];exact eq_of_beq (OJ.mp hf en m)
 exact{en.f,fd,en.N.take en.ps,en.N,en.st,en.x,en.x,fe,F,F.binds (λa b c d e f=>BB T m a b c d e f),S,hl.symm,rfl,λcall n cdv A outer s H E C hr=>tS T TO tw xf m call n cdv A outer s H E C hr}
noncomputable def JT (K:OA)(fa:Fa)(t:mw)(p:Str×En):Bool:=match p.2 with
 |.fn i _=>(match PySem.W.nsIn K mainGlobals p.1 with|some (some (.ref a))=>fa i==some a|_=>false)
 |.int i=>(match PySem.W.nsIn K mainGlobals p.1 with|some (some (.int j _))=>i==j|_=>false)
 |.str i=>(match PySem.W.nsIn K mainGlobals p.1 with|some (some (.str j _))=>i==j|_=>false)
 |.xc k=>(match PySem.W.nsIn K mainGlobals p.1 with|some (some (.ref a))=>fa (fz k)==some a&&PySem.W.excIn K a mZ "ValueError.__new__"&&PySem.W.keepIn K (.ref a)|_=>false)
 |.xi k=>(match PySem.W.nsIn K mainGlobals p.1 with|some (some (.ref a))=>fa (fz k)==some a&&t.il.contains (p.1,k)|_=>false)
 |.xk k=>(match PySem.W.nsIn K mainGlobals p.1 with|some (some (.ref a))=>fa (fz k)==some a|_=>false)
 |.de=>(match PySem.W.nsIn K mainGlobals p.1 with|some (some (.ref a))=>fa 999==some a|_=>false)
 |.bl=>(match PySem.W.nsIn K mainGlobals p.1 with|some none=>true|_=>false)
 |.dct fs=>t.dl.contains (p.1,fs)
def Ff {h:Heap}(X:K.In h)(G:h.Ns mainGlobals mg)(hT:t.T.all (JT K fa t)=true)(hx:ng fa K)(hd:AllP (λq=>∃ad kvs,mg q.1=some (.ref ad)/\gA K w.params ad kvs/\fm fa kvs q.2) t.dl)(hi:AllP (λq=>lM fa P w K mg base q.2 q.1) t.il):EJ fa P w K mg base t.T:=by
 have key:∀{x:Str}{e:En},t.T.lookup x=some e->JT K fa t (x,e)=true:=λ{x e} l=>OJ.mp hT _ (mem_of_lookup l);refine{λ{x i r} l ad ha=>?_,λ{x i} l=>?_,λ{x i} l=>?_,λ{x fs} l=>?_,λ{x k} l=>?_,λ{x k} l=>?_,λ{x k} l=>?_,λ{x} l=>?_,λ{x} l=>?_,hx};all_goals have b:=key l;unfold JT at b;dsimp only at b
 ·split at b
  ·next e=>have b:=eq_of_beq b;rw[ha] at b;cases b;exact P8 X G e
  ·cases b
 ·split at b
  ·next e=>have b:=eq_of_beq b;subst b;exact{_,P8 X G e}
  ·cases b
 ·split at b
  ·next e=>have b:=eq_of_beq b;subst b;exact{_,P8 X G e}
  ·cases b
 ·exact hd.mem (x,fs) (List.contains_iff_mem.mp b)
 ·split at b
  ·next e=>simp only[OB] at b;exact{_,P8 X G e,eq_of_beq b.1.1,b.1.2,b.2}
  ·cases b
 ·split at b
  ·next e=>rw[OB] at b;exact{hi.mem (x,k) (List.contains_iff_mem.mp b.2),_,P8 X G e,eq_of_beq b.1}
  ·cases b
 ·split at b
  ·next e=>exact{_,P8 X G e,eq_of_beq b}
  ·cases b
 ·split at b
  ·next e=>exact{_,P8 X G e,eq_of_beq b}
  ·cases b
 ·split at b
  ·next e=>exact PySem.W.mg_none_of X G e
  ·cases b
end
end LD
namespace LD
open PySem
abbrev gI (n:Int):GE:=gC (.int n)
abbrev gS (x:Str):GE:=gC (.str x)
abbrev gN:GE:=gC .non
abbrev u3:GE:=gC (.bl true)
abbrev wN:GE:=gC (.bl false)
abbrev rF:GS:=ag (aK wN) aj
noncomputable def dq:List (Str×Nat):=[("turn",7),("join",8),("move",9),("put",10)]
noncomputable def du:List (Str×Nat):=[("turn",20),("join",21),("move",22),("put",23)]
noncomputable def gm (c:Call):GS:=ag (aQ (eA (ax (bL .bool (ae 0))) (bC (ax (bL .int (ae 0))))) rF aj) (ag (aK (mf .le .le (ae 1) (ae 0) (ae 2))) aj)
noncomputable def kS (c:Call):GS:=ag (aK (aq 0 c (aa (ae 1) (aa (gI 0) (aa (au false .sub (ae 0) (gI 1)) ah))))) aj
noncomputable def jP (c:Call):GS:=ag (aK (aq 0 c (aa (ae 1) (aa (gI 0) (aa (au false .sub (ae 0) (gI 1)) ah))))) aj
noncomputable def kT (c:Call):GS:=ag (aK (aq 0 c (aa (ae 0) (aa (gI 1) (aa (gI 3) ah))))) aj
noncomputable def fR (c:Call):GS:=ag (aK (dZ (bL .tuple (ae 1)) (aL .eq (aX .len (aa (ae 1) ah)) (ae 0)))) aj
noncomputable def jO (c:Call):GS:=ag (aK (dZ (aq 4 c (aa (ae 0) (aa (ae 1) ah))) (aX .all (aa (bU false 1 (.one 0) (eF (ae 1)) (bR (aq 1 c (aa (ae 1) (aa (ae 0) ah))))) ah)))) aj
noncomputable def fj (c:Call):GS:=ag (aK (dZ (aq 4 c (aa (ae 0) (aa (ae 1) ah))) (aX .all (aa (bU false 1 (.one 0) (eF (ae 1)) (bR (aq 5 c (aa (ae 1) (aa (ae 0) ah))))) ah)))) aj
noncomputable def hU (c:Call):GS:=ag (aQ (ax (aL .ne (aX .len (aa (ae 2) ah)) (gI 3))) rF aj) (ag (aI (.tup [3,4,5]) (ae 2)) (ag (aK (dZ (aq 2 c (aa (ae 1) (aa (ae 3) ah))) (dZ (aq 5 c (aa (ae 0) (aa (ae 4) ah))) (aq 3 c (aa (ae 5) ah))))) aj))
noncomputable def hX (c:Call):GS:=ag (aQ (ax (aL .ne (aX .len (aa (ae 2) ah)) (gI 4))) rF aj) (ag (aI (.tup [3,4,5,6]) (ae 2)) (ag (aQ (eA (bC (ax (aq 2 c (aa (ae 1) (aa (ae 3) ah))))) (bC (ax (aq 2 c (aa (ae 1) (aa (ae 4) ah)))))) rF aj) (ag (aK (dZ (aq 6 c (aa (ae 0) (aa (ae 5) ah))) (aq 3 c (aa (ae 6) ah)))) aj)))
noncomputable def hV (c:Call):GS:=ag (aQ (ax (aL .ne (aX .len (aa (ae 2) ah)) (gI 3))) rF aj) (ag (aI (.tup [3,4,5]) (ae 2)) (ag (aK (dZ (aq 2 c (aa (ae 1) (aa (ae 3) ah))) (dZ (aq 2 c (aa (ae 1) (aa (ae 4) ah))) (aq 3 c (aa (ae 5) ah))))) aj))
noncomputable def i5 (c:Call):GS:=ag (aQ (ax (aL .ne (aX .len (aa (ae 2) ah)) (gI 3))) rF aj) (ag (aI (.tup [3,4,5]) (ae 2)) (ag (aK (dZ (aq 2 c (aa (ae 1) (aa (ae 3) ah))) (dZ (aq 1 c (aa (ae 0) (aa (ae 4) ah))) (aq 3 c (aa (ae 5) ah))))) aj))
noncomputable def hZ (c:Call):GS:=ag (aQ (eA (bC (ax (bL .tuple (ae 2)))) (bC (ax (ae 2)))) rF aj) (ag (aI (.one 3) (aE (ae 2) (gI 0))) (ag (aQ (eA (bC (ax (bL .str (ae 3)))) (ax (jK dq (ae 3)))) rF aj) (ag (aI (.one 4) (md dq (ae 3))) (ag (aK (mT 4 c (aa (ae 0) (aa (ae 1) (aa (cq false true false (ae 2) (gI 1) gN) ah))))) aj))))
noncomputable def gk (c:Call):GS:=ag (aQ (bC (ax (aq 4 c (aa (gI 3) (aa (ae 0) ah))))) rF aj) (ag (aI (.tup [1,2,3]) (ae 0)) (ag (aQ (eA (bC (ax (aq 0 c (aa (ae 1) (aa (gI 2) (aa (gI 4) ah)))))) (bC (ax (aq 0 c (aa (ae 2) (aa (gI 1) (aa (gI 2) ah))))))) rF aj) (ag (aQ (eA (bC (ax (bL .tuple (ae 3)))) (bC (ax (mf .le .le (gI 1) (aX .len (aa (ae 3) ah)) (gI 6))))) rF aj) (ag (aK (aX .all (aa (bU false 1 (.one 0) (eF (ae 3)) (bR (aq 11 c (aa (ae 2) (aa (ae 3) (aa (ae 0) ah)))))) ah))) aj))))
noncomputable def dG (c:Call):GS:=ag (aQ (bC (ax (aq 12 c (aa (ae 0) ah)))) (ag (j6 3 (aa (gS "this is no machine") ah)) aj) aj) aj
noncomputable def fA (c:Call):GS:=ag (iR (dE 13 c (aa (ae 0) ah))) (ag (aI (.tup [1,2,3]) (ae 0)) (ag (aI (.one 4) (aO false (aa (bH ah) ah))) (ag (dF (.one 5) (dn (ae 2)) (ag (aI (.one 4) (bU false 2 (.one 0) (eF (ae 4)) (u4 (.one 1) (dn (ae 3)) (bR (au false .add (ae 0) (bH (aa (ae 1) ah))))))) aj)) (ag (aK (ae 4)) aj))))
noncomputable def fO (c:Call):GS:=ag (aK (aq 0 c (aa (ae 1) (aa (gI 0) (aa (au false .sub (aX .len (aa (aE (ae 0) (gI 2)) ah)) (gI 1)) ah))))) aj
noncomputable def cD (c:Call):GS:=ag (aQ (bC (ax (bL .list (ae 1)))) (ag (g8 0 (gI 0)) aj) aj) (ag (dF (.tup [2,3]) (iF (ae 1)) (ag (aQ (bC (ax (aq 16 c (aa (ae 0) (aa (ae 3) ah))))) (ag (g8 0 (ae 2)) aj) aj) aj)) aj)
noncomputable def d3 (c:Call):GS:=ag (iR (dE 13 c (aa (ae 0) ah))) (ag (iR (dE 17 c (aa (ae 0) (aa (ae 1) ah)))) (ag (aQ (ax (aL .gt (aX .len (aa (ae 1) ah)) (gI 40))) (ag (j6 4 (aa (JO "a row has at most " " deeds" (gI 40)) ah)) aj) aj) aj))
noncomputable def vA (c:Call):GS:=ag (iR (dE 18 c (aa (ae 0) (aa (ae 1) ah)))) (ag (aK (aq 47 c (aa (ae 0) (aa (ae 1) ah)))) aj)
noncomputable def oY (c:Call):GS:=ag (aI (.tup [2,3,4,5]) (ae 0)) (ag (aK (aE (ae 4) (aE (ae 1) (ae 3)))) aj)
noncomputable def pd (c:Call):GS:=ag (aI (.tup [2,3,4,5,6]) (ae 0)) (ag (aK (aE (aE (ae 5) (aE (ae 1) (ae 3))) (aE (ae 1) (ae 4)))) aj)
noncomputable def rg (c:Call):GS:=ag (aI (.tup [2,3,4,5]) (ae 0)) (ag (aK (aE (ae 1) (ae 4))) aj)
noncomputable def oZ (c:Call):GS:=ag (aI (.tup [2,3,4,5]) (ae 0)) (ag (aK (ae 4)) aj)
noncomputable def vv (c:Call):GS:=ag (aI (.one 2) (md du (aE (ae 0) (gI 0)))) (ag (aI (.one 3) (aE (ae 0) (gI 1))) (ag (aK (au false .add (au false .add (cq false false true (ae 1) gN (ae 3)) (bH (aa (mT 2 c (aa (ae 0) (aa (ae 1) ah))) ah))) (cq false true false (ae 1) (au false .add (ae 3) (gI 1)) gN))) aj))
noncomputable def i6 (c:Call):GS:=ag (aI (.one 3) (aO true (aa (ae 2) ah))) (ag (dF (.one 4) (eF (ae 1)) (ag (jB (ae 3) (aq 24 c (aa (aE (aE (ae 0) (gI 2)) (ae 4)) (aa (aE (ae 3) (fH (gI 1))) ah)))) aj)) (ag (aK (ae 3)) aj))
noncomputable def jj (c:Call):GS:=ag (iR (dE 18 c (aa (ae 0) (aa (ae 1) ah)))) (ag (aK (aq 46 c (aa (ae 0) (aa (ae 1) ah)))) aj)
noncomputable def gM (c:Call):GS:=ag (aQ (ax (aL .ge (ae 0) (au false .pow (gI 10) (gI 18)))) (ag (aK (ae 0)) aj) aj) (ag (aI (.one 2) (aO false (aa (gI 2147483629) (aa (gI 2147483587) (aa (gI 2147483579) (aa (gI 2147483563) (aa (gI 2147483549) (aa (gI 2147483543) (aa (gI 2147483497) (aa (gI 2147483489) ah)))))))))) (ag (aI (.one 2) (au false .add (ae 2) (aO false (aa (gI 2147483477) (aa (gI 2147483423) (aa (gI 2147483399) (aa (gI 2147483353) (aa (gI 2147483323) ah)))))))) (ag (aI (.one 3) (au false .mod (au false .pow (au false .add (au false .add (au false .mul (au false .mod (ae 0) (gI 1000000007)) (au false .add (au false .mul (gI 2) (ae 1)) (gI 69069))) (au false .mul (ae 1) (gI 40503))) (gI 977)) (gI 3)) (aE (ae 2) (au false .mod (ae 1) (gI 13))))) (ag (aI (.one 4) (au false .mod (au false .pow (au false .add (au false .add (au false .mul (ae 3) (au false .add (ae 1) (gI 3))) (au false .mod (ae 0) (gI 65537))) (gI 5)) (gI 5)) (aE (ae 2) (au false .mod (au false .add (ae 1) (gI 5)) (gI 13))))) (ag (aI (.one 5) (au false .mod (au false .pow (au false .add (au false .add (ae 4) (au false .mod (ae 3) (gI 1009))) (ae 1)) (gI 3)) (aE (ae 2) (au false .mod (au false .add (ae 1) (gI 7)) (gI 13))))) (ag (aK (au false .add (au false .mul (au false .add (au false .mul (ae 3) (gI 2147483647)) (ae 4)) (gI 2147483647)) (ae 5))) aj))))))
noncomputable def lg (c:Call):GS:=ag (aI (.one 1) (aX (.list true) (aa (cq false false true (ae 0) gN (gI 12)) ah))) (ag (dF (.tup [2,3]) (iF (cq false true true (ae 0) (gI 12) (gI 63))) (ag (fF (ae 1) (au false .mod (ae 2) (gI 12)) (au false .add (aE (ae 1) (au false .mod (ae 2) (gI 12))) (ae 3))) aj)) (ag (aK (aO true (aa (ae 1) (aa (gI 0) (aa (gI 0) ah))))) aj))
noncomputable def lh (c:Call):GS:=ag (fF (ae 0) (gI 2) (gI 0)) (ag (aK (ae 0)) aj)
noncomputable def og (c:Call):GS:=ag (aQ (ax (aL .lt (aE (ae 0) (gI 2)) (ae 1))) (ag (aI (.one 2) (aE (ae 0) (gI 1))) (ag (aI (.one 3) (gI 0)) (ag (aQ (ax (aL .lt (ae 2) (aX .len (aa (aE (ae 0) (gI 0)) ah)))) (ag (aI (.one 3) (aE (aE (ae 0) (gI 0)) (ae 2))) aj) (ag (aQ (ax (aL .gt (aX .len (aa (aE (ae 0) (gI 0)) ah)) (gI 0))) (ag (aI (.one 3) (au false .mod (aE (aE (ae 0) (gI 0)) (au false .mod (au false .add (au false .mul (ae 2) (gI 5)) (gI 3)) (aX .len (aa (aE (ae 0) (gI 0)) ah)))) (au false .add (au false .pow (gI 10) (gI 17)) (ae 2)))) aj) aj) aj)) (ag (fF (ae 0) (gI 1) (au false .add (ae 2) (gI 1))) (ag (fF (ae 0) (gI 2) (aq 28 c (aa (ae 3) (aa (ae 2) ah)))) aj))))) aj) (ag (aI (.one 4) (au false .mod (aE (ae 0) (gI 2)) (ae 1))) (ag (fF (ae 0) (gI 2) (au false .fdiv (aE (ae 0) (gI 2)) (ae 1))) (ag (aK (ae 4)) aj)))
noncomputable def jQ (c:Call):GS:=ag (aI (.one 2) (aq 31 c (aa (ae 0) (aa (gI 6) ah)))) (ag (aI (.one 3) (aq 31 c (aa (ae 0) (aa (ae 1) ah)))) (ag (aI (.one 4) (aq 31 c (aa (ae 0) (aa (ae 1) ah)))) (ag (aQ (ax (aL .lt (ae 2) (gI 2))) (ag (aK (aX .tuple (aa (bU false 1 (.one 0) (dn (ae 1)) (bR (aq 31 c (aa (ae 1) (aa (ae 2) ah))))) ah))) aj) aj) (ag (aQ (ax (aL .eq (ae 2) (gI 2))) (ag (aK (aX .tuple (aa (bU false 1 (.one 0) (dn (ae 1)) (bR (au false .mod (au false .add (au false .add (ae 0) (gI 1)) (ae 4)) (ae 2)))) ah))) aj) aj) (ag (aQ (ax (aL .eq (ae 2) (gI 3))) (ag (aK (aX .tuple (aa (bU false 1 (.one 0) (dn (ae 1)) (bR (fJ (ax (aL .eq (ae 0) (ae 4))) (ae 5) (ae 0)))) ah))) aj) aj) (ag (aQ (ax (aL .eq (ae 2) (gI 4))) (ag (aK (au false .mul (bH (aa (ae 3) ah)) (ae 1))) aj) aj) (ag (aI (.one 5) (mS true (ae 1))) (ag (fF (ae 5) (ae 3) (ae 4)) (ag (fF (ae 5) (ae 4) (ae 3)) (ag (aK (aX .tuple (aa (ae 5) ah))) aj))))))))))
noncomputable def jl (c:Call):GS:=ag (aI (.one 3) (aq 31 c (aa (ae 0) (aa (gI 8) ah)))) (ag (aI (.one 4) (au false .add (gI 1) (aq 31 c (aa (ae 0) (aa (gI 3) ah))))) (ag (aI (.one 5) (aq 31 c (aa (ae 0) (aa (ae 2) ah)))) (ag (aI (.one 6) (aq 31 c (aa (ae 0) (aa (ae 2) ah)))) (ag (aQ (ax (aL .lt (ae 3) (gI 3))) (ag (aK (bH (aa (gS "turn") (aa (ae 5) (aa (aq 32 c (aa (ae 0) (aa (ae 1) ah))) (aa (ae 4) ah)))))) aj) aj) (ag (aQ (ax (aL .lt (ae 3) (gI 5))) (ag (aK (bH (aa (gS "move") (aa (ae 5) (aa (fJ (ax (aL .eq (ae 3) (gI 3))) (au false .mod (au false .add (ae 5) (gI 1)) (ae 2)) (ae 6)) (aa (ae 4) ah)))))) aj) aj) (ag (aQ (ax (aL .eq (ae 3) (gI 5))) (ag (aK (bH (aa (gS "put") (aa (ae 5) (aa (aq 31 c (aa (ae 0) (aa (ae 1) ah))) (aa (ae 4) ah)))))) aj) aj) (ag (aK (bH (aa (gS "join") (aa (ae 5) (aa (ae 6) (aa (aX .tuple (aa (bU false 1 (.one 0) (dn (ae 1)) (bR (aq 32 c (aa (ae 1) (aa (ae 2) ah))))) ah)) (aa (ae 4) ah))))))) aj)))))))
noncomputable def gz (c:Call):GS:=ag (aI (.one 1) (au false .add (gI 2) (aq 31 c (aa (ae 0) (aa (au false .sub (ae 1) (gI 1)) ah))))) (ag (aI (.one 2) (au false .add (gI 1) (aq 31 c (aa (ae 0) (aa (ae 2) ah))))) (ag (aI (.one 4) (aO true ah)) (ag (dF (.one 5) (dn (au false .add (gI 1) (aq 31 c (aa (ae 0) (aa (ae 3) ah))))) (ag (aI (.one 6) (aq 31 c (aa (ae 0) (aa (gI 5) ah)))) (ag (aI (.one 7) (aq 33 c (aa (ae 0) (aa (ae 1) (aa (ae 2) ah))))) (ag (aQ (gW (ax (aL .eq (ae 6) (gI 0))) (ax (aL .ne (ae 4) (aO false ah)))) (ag (aI (.one 7) (au false .add (cq false false true (aE (ae 4) (aq 31 c (aa (ae 0) (aa (aX .len (aa (ae 4) ah)) ah)))) gN (fH (gI 1))) (bH (aa (aE (ae 7) (fH (gI 1))) ah)))) aj) aj) (ag (jB (ae 4) (ae 7)) aj))))) (ag (aK (bH (aa (ae 1) (aa (ae 2) (aa (aX .tuple (aa (ae 4) ah)) ah))))) aj))))
noncomputable def eV (c:Call):GS:=ag (aI (.one 3) (aq 31 c (aa (ae 0) (aa (gI 4) ah)))) (ag (aI (.one 4) (fJ (ax (aL .eq (ae 3) (gI 0))) (ae 2) (aq 31 c (aa (ae 0) (aa (au false .add (ae 2) (gI 1)) ah))))) (ag (aI (.one 5) (bU false 1 (.one 0) (dn (ae 4)) (bR (aq 31 c (aa (ae 1) (aa (aX .len (aa (aE (ae 2) (gI 2)) ah)) ah)))))) (ag (aQ (ax (aL .eq (ae 3) (gI 1))) (ag (aI (.one 5) (cq false false true (au false .mul (cq false false true (ae 5) gN (gI 2)) (ae 4)) gN (ae 4))) aj) aj) (ag (aK (ae 5)) aj))))
noncomputable def d8 (c:Call):GS:=ag (aQ (ax (aL .isN (ae 1) gN)) (ag (aK (aL .isN (ae 0) gN)) aj) aj) (ag (aQ (eA (ax (bL .bool (ae 1))) (ax (bL .bool (ae 0)))) (ag (aK (dZ (bL .bool (ae 1)) (dZ (bL .bool (ae 0)) (aL .eq (ae 0) (ae 1))))) aj) aj) (ag (aQ (ax (bL .int (ae 1))) (ag (aK (dZ (bL .int (ae 0)) (aL .eq (ae 0) (ae 1)))) aj) aj) (ag (aQ (ax (bL .str (ae 1))) (ag (aK (dZ (bL .str (ae 0)) (aL .eq (ae 0) (ae 1)))) aj) aj) (ag (aQ (eA (ax (aL .ne (bL .tuple (ae 1)) (bL .tuple (ae 0)))) (ax (aL .ne (bL .list (ae 1)) (bL .list (ae 0))))) rF aj) (ag (aQ (ax (aL .ne (aX .len (aa (ae 0) ah)) (aX .len (aa (ae 1) ah)))) rF aj) (ag (aK (aL .notin wN (bU false 2 (.tup [0,1]) (nJ (ae 0) (ae 1)) (bR (aq 40 c (aa (ae 0) (aa (ae 1) ah))))))) aj))))))
noncomputable def kj (c:Call):GS:=ag (aI (.one 2) (aX (.list true) (aa (ae 1) ah))) (ag (aI (.one 3) (aE (ae 1) (aE (ae 0) (gI 1)))) (ag (aQ (ax (aL .eq (aE (ae 0) (gI 0)) (gS "turn"))) (ag (fF (ae 2) (aE (ae 0) (gI 1)) (aE (aE (ae 0) (gI 2)) (ae 3))) aj) aj) (ag (aQ (ax (aL .eq (aE (ae 0) (gI 0)) (gS "join"))) (ag (fF (ae 2) (aE (ae 0) (gI 1)) (aE (aE (aE (ae 0) (gI 3)) (ae 3)) (aE (ae 1) (aE (ae 0) (gI 2))))) aj) aj) (ag (aQ (ax (aL .eq (aE (ae 0) (gI 0)) (gS "move"))) (ag (fF (ae 2) (aE (ae 0) (gI 1)) (aE (ae 1) (aE (ae 0) (gI 2)))) aj) aj) (ag (aQ (ax (aL .eq (aE (ae 0) (gI 0)) (gS "put"))) (ag (fF (ae 2) (aE (ae 0) (gI 1)) (aE (ae 0) (gI 2))) aj) aj) (ag (aK (aX .tuple (aa (ae 2) ah))) aj))))))
noncomputable def jE (c:Call):GS:=ag (aQ (ax (aL .eq (aE (ae 0) (gI 1)) (gI 1))) (ag (aK (bU false 1 (.one 0) (dn (aE (ae 0) (gI 0))) (bR (bH (aa (ae 0) ah))))) aj) aj) (ag (aK (bU false 1 (.one 0) (dn (au false .mul (aE (ae 0) (gI 0)) (aE (ae 0) (gI 0)))) (bR (bH (aa (au false .fdiv (ae 0) (aE (ae 1) (gI 0))) (aa (au false .mod (ae 0) (aE (ae 1) (gI 0))) ah)))))) aj)
noncomputable def cW (c:Call):GS:=ag (aI (.one 2) (aO true ah)) (ag (dF (.one 3) (eF (aq 42 c (aa (ae 0) ah))) (ag (dF (.one 4) (eF (ae 1)) (ag (aI (.one 3) (aq 41 c (aa (aE (aE (ae 0) (gI 2)) (ae 4)) (aa (ae 3) ah)))) aj)) (ag (jB (ae 2) (ae 3)) aj))) (ag (aK (aX .tuple (aa (ae 2) ah))) aj))
noncomputable def jx (c:Call):GS:=ag (aK (aX .tuple (aa (bU false 1 (.one 0) (eF (aq 15 c (aa (ae 0) ah))) (bR (aE (aq 25 c (aa (ae 1) (aa (ae 2) (aa (ae 0) ah)))) (fH (gI 1))))) ah))) aj
noncomputable def pb (c:Call):GS:=ag (jb (.one 3) (dE 27 c (aa (ae 0) (aa (ae 1) ah)))) (ag (jb (.one 4) (dE 27 c (aa (ae 0) (aa (ae 2) ah)))) (ag (dF (.tup [5,6,7]) (qb (aq 15 c (aa (ae 0) ah)) (ae 3) (ae 4)) (ag (aQ (ax (aL .ne (ae 6) (ae 7))) (ag (aK (ae 5)) aj) aj) aj)) (ag (aK gN) aj)))
noncomputable def eW (c:Call):GS:=ag (aI (.one 2) (au false .add (bU false 1 (.one 0) (dn (gI 9)) (bR (aq 35 c (aa (ae 1) (aa (ae 2) (aa (gI 3) ah)))))) (aO false (aa (aO false ah) (aa (aO false (aa (gI 0) ah)) ah))))) (ag (aI (.one 3) (aO true (aa (bH (aa (aE (ae 2) (gI 0)) (aa (aX (.list false) (aa (aE (ae 2) (gI 0)) ah)) ah))) ah))) (ag (dF (.tup [4,5]) (iF (ae 2)) (ag (dF (.one 6) (eF (cq false false true (ae 2) gN (ae 4))) (ag (aQ (gW (ax (aL .ne (ae 5) (ae 6))) (ax (aL .eq (aq 44 c (aa (ae 1) (aa (ae 5) ah))) (aq 44 c (aa (ae 1) (aa (ae 6) ah)))))) (ag (jB (ae 3) (bH (aa (ae 5) (aa (aX (.list false) (aa (ae 6) ah)) ah)))) aj) aj) aj)) aj)) (ag (aK (ae 3)) aj)))
noncomputable def i4 (c:Call):GS:=ag (mF (ag (iR (dE 18 c (aa (ae 0) (aa (ae 1) ah)))) aj) 0 4 rF) (ag (aK u3) aj)
noncomputable def jw (c:Call):GS:=ag (aQ (bC (ax (aq 4 c (aa (gI 2) (aa (ae 1) ah))))) rF aj) (ag (aI (.tup [2,3]) (ae 1)) (ag (aK (dZ (aq 52 c (aa (ae 0) (aa (ae 2) ah))) (dZ (aq 52 c (aa (ae 0) (aa (ae 3) ah))) (aL .isN (aq 48 c (aa (ae 0) (aa (ae 2) (aa (ae 3) ah)))) gN)))) aj))
noncomputable def dz (c:Call):GS:=ag (iR (dE 13 c (aa (ae 0) ah))) (ag (dF (.tup [2,3]) (iF (ae 1)) (ag (aQ (bC (ax (aq 53 c (aa (ae 0) (aa (ae 3) ah))))) (ag (g8 1 (ae 2)) aj) aj) aj)) aj)
noncomputable def gP (c:Call):GS:=ag (aK (bU false 2 (.tup [0,1]) (eF (ae 0)) (bR (bH (aa (aX (.list false) (aa (ae 0) ah)) (aa (aX (.list false) (aa (ae 1) ah)) ah)))))) aj
noncomputable def f6 (c:Call):GS:=ag (aI (.one 2) (gS " !\"#$&'()*+,-./0123456789:;<=>?@ABCDEFGHIJKLMNOPQRSTUVWXYZ[\\]^_`")) (ag (aI (.one 2) (au false .add (ae 2) (gS "abcdefghijklmnopqrstuvwxyz{|}~\t\n"))) (ag (aI (.one 3) (bU false 1 (.one 0) (qc (ae 2)) (lG (ax (aL .notin (ae 0) (ae 2))) (bR (ae 0))))) (ag (aK (aE (ae 3) (aq 31 c (aa (ae 0) (aa (aX .len (aa (ae 3) ah)) ah))))) aj)))
noncomputable def f9 (c:Call):GS:=ag (aK (aq 64 c (aa (ae 0) (aa (gS "") ah)))) aj
noncomputable def gO (c:Call):GS:=ag (aI (.one 2) (aq 31 c (aa (ae 0) (aa (au false .add (aX .len (aa (ae 1) ah)) (gI 1)) ah)))) (ag (aK (au false .add (au false .add (nK false true (ae 1) gN (ae 2)) (aq 65 c (aa (ae 0) ah))) (nK true false (ae 1) (au false .add (ae 2) (aq 31 c (aa (ae 0) (aa (gI 2) ah)))) gN))) aj)
noncomputable def kU (c:Call):GS:=ag (aK (dZ (bL .int (ae 0)) (JM (bL .bool (ae 0))))) aj
noncomputable def m7 (c:Call):GS:=ag (aK (dZ (aq 67 c (aa (ae 0) ah)) (mf .le .le (ae 1) (ae 0) (ae 2)))) aj
noncomputable def i7 (c:Call):GS:=ag (aQ (eA (bC (ax (bL .tuple (ae 0)))) (ax (aL .ne (aX .len (aa (ae 0) ah)) (ae 1)))) rF aj) (ag (aK (aL .eq (bU false 1 (.one 0) (eF (ae 0)) (lG (bC (ax (aq 68 c (aa (ae 0) (aa (ae 3) (aa (ae 4) ah)))))) (bR (gI 1)))) (aO false ah))) aj)
noncomputable def bp (c:Call):GS:=ag (aQ (eA (bC (ax (bL .tuple (ae 0)))) (ax (aL .notin (aX .len (aa (ae 0) ah)) (bH (aa (gI 4) (aa (gI 5) ah)))))) rF aj) (ag (aQ (eA (ax (aL .notin (aE (ae 0) (gI 0)) (bH (aa (gS "turn") (aa (gS "join") (aa (gS "move") (aa (gS "put") ah))))))) (ax (aL .ne (aL .eq (aX .len (aa (ae 0) ah)) (gI 5)) (aL .eq (aE (ae 0) (gI 0)) (gS "join"))))) rF aj) (ag (aQ (eA (bC (ax (aq 69 c (aa (bH (aa (aE (ae 0) (gI 1)) ah)) (aa (gI 1) (aa (gI 0) (aa (au false .sub (ae 2) (gI 1)) ah))))))) (bC (ax (aq 68 c (aa (aE (ae 0) (fH (gI 1))) (aa (gI 1) (aa (gI 3) ah))))))) rF aj) (ag (aQ (ax (aL .eq (aE (ae 0) (gI 0)) (gS "turn"))) (ag (aK (aq 69 c (aa (aE (ae 0) (gI 2)) (aa (ae 1) (aa (gI 0) (aa (au false .sub (ae 1) (gI 1)) ah)))))) aj) aj) (ag (aQ (ax (aL .eq (aE (ae 0) (gI 0)) (gS "put"))) (ag (aK (aq 68 c (aa (aE (ae 0) (gI 2)) (aa (gI 0) (aa (au false .sub (ae 1) (gI 1)) ah))))) aj) aj) (ag (aQ (bC (ax (aq 68 c (aa (aE (ae 0) (gI 2)) (aa (gI 0) (aa (au false .sub (ae 2) (gI 1)) ah)))))) rF aj) (ag (aQ (ax (aL .eq (aE (ae 0) (gI 0)) (gS "move"))) (ag (aK u3) aj) aj) (ag (aQ (eA (bC (ax (bL .tuple (aE (ae 0) (gI 3))))) (ax (aL .ne (aX .len (aa (aE (ae 0) (gI 3)) ah)) (ae 1)))) rF aj) (ag (aK (aL .eq (bU false 1 (.one 0) (eF (aE (ae 0) (gI 3))) (lG (bC (ax (aq 69 c (aa (ae 0) (aa (ae 2) (aa (gI 0) (aa (au false .sub (ae 2) (gI 1)) ah))))))) (bR (gI 1)))) (aO false ah))) aj))))))))
noncomputable def fk (c:Call):GS:=ag (aQ (eA (bC (ax (bL .tuple (ae 0)))) (eA (ax (aL .ne (aX .len (aa (ae 0) ah)) (gI 3))) (bC (ax (aq 68 c (aa (aE (ae 0) (gI 0)) (aa (gI 2) (aa (gI 4) ah)))))))) rF aj) (ag (aQ (eA (bC (ax (aq 68 c (aa (aE (ae 0) (gI 1)) (aa (gI 1) (aa (gI 2) ah)))))) (eA (bC (ax (bL .tuple (aE (ae 0) (gI 2))))) (bC (ax (mf .le .le (gI 1) (aX .len (aa (aE (ae 0) (gI 2)) ah)) (gI 6)))))) rF aj) (ag (aK (aL .eq (bU false 1 (.one 0) (eF (aE (ae 0) (gI 2))) (lG (bC (ax (aq 70 c (aa (ae 0) (aa (aE (ae 1) (gI 0)) (aa (aE (ae 1) (gI 1)) ah)))))) (bR (gI 1)))) (aO false ah))) aj))
noncomputable def jm (c:Call):GS:=ag (aI (.one 3) (aq 31 c (aa (ae 0) (aa (gI 8) ah)))) (ag (aI (.one 4) (aq 31 c (aa (ae 0) (aa (gI 20) ah)))) (ag (aI (.one 5) (au false .sub (aq 31 c (aa (ae 0) (aa (gI 9) ah))) (gI 2))) (ag (aQ (gW (ax (bL .tuple (ae 1))) (gW (ax (aL .ne (ae 1) (bH ah))) (gW (ax (aL .gt (ae 2) (gI 0))) (ax (aL .gt (ae 4) (gI 4)))))) (ag (aI (.one 6) (aq 31 c (aa (ae 0) (aa (aX .len (aa (ae 1) ah)) ah)))) (ag (aK (au false .add (au false .add (cq false false true (ae 1) gN (ae 6)) (bH (aa (aq 72 c (aa (ae 0) (aa (aE (ae 1) (ae 6)) (aa (au false .sub (ae 2) (gI 1)) ah)))) ah))) (cq false true false (ae 1) (au false .add (ae 6) (gI 1)) gN))) aj)) aj) (ag (aI (.one 7) (aO false (aa gN (aa u3 (aa wN (aa (gS "") (aa (gS "turn") (aa (gS "join") (aa (gS "move") (aa (gS "put") (aa (gS "Turn") (aa (bH ah) (aa (aO false ah) (aa (au false .pow (gI 10) (gI 20)) (aa (fH (gI 1)) (aa (gI 0) ah)))))))))))))))) (ag (aI (.one 7) (au false .add (ae 7) (aO false (aa (gI 1) (aa (gI 4) (aa (bH (aa (gI 0) ah)) (aa (aO false (aa (gI 0) ah)) (aa (gS "0") (aa (gI 7) ah))))))))) (ag (aQ (ax (bL .tuple (ae 1))) (ag (aI (.one 8) (aO false (aa (aX (.list false) (aa (ae 1) ah)) (aa (au false .add (ae 1) (cq false false true (ae 1) gN (gI 1))) (aa (cq false false true (ae 1) gN (fH (gI 1))) (aa (oS false (ae 1)) (aa (au false .add (ae 1) (bH (aa (ae 5) ah))) (aa (cq false true false (ae 1) (gI 1) gN) (aa (bH (aa (ae 1) ah)) ah))))))))) (ag (aK (aE (au false .add (ae 8) (aO false (aa (aE (ae 7) (ae 4)) ah))) (ae 3))) aj)) aj) (ag (aQ (ax (aq 67 c (aa (ae 1) ah))) (ag (aK (aE (aO false (aa (au false .add (ae 1) (gI 1)) (aa (au false .sub (ae 1) (gI 1)) (aa (au false .sub (gI 0) (ae 1)) (aa (ae 5) (aa (ae 5) (aa (aL .eq (ae 1) (gI 1)) (aa (au false .sub (gI 3) (ae 1)) (aa (aE (ae 7) (ae 4)) ah))))))))) (ae 3))) aj) aj) (ag (aQ (gW (ax (bL .str (ae 1))) (ax (aL .lt (ae 3) (gI 3)))) (ag (aK (aq 66 c (aa (ae 0) (aa (ae 1) ah)))) aj) aj) (ag (aK (aE (ae 7) (ae 4))) aj)))))))))
noncomputable def eh (c:Call):GS:=ag (aI (.one 1) (aO false (aa (cf (some 0) (ae 0)) (aa (cf (some 1) (ae 0)) (aa (cf (some 2) (ae 0)) ah))))) (ag (aI (.one 1) (au false .add (ae 1) (aO false (aa (cf (some 3) (ae 0)) (aa (cf (some 4) (ae 0)) (aa (cf (some 5) (ae 0)) ah)))))) (ag (aI (.one 1) (au false .add (ae 1) (aO false (aa (cf (some 6) (ae 0)) (aa (cf (some 7) (ae 0)) (aa (cf (some 8) (ae 0)) ah)))))) (ag (aI (.one 1) (au false .add (ae 1) (aO false (aa (cf (some 9) (ae 0)) (aa (cf (some 10) (ae 0)) (aa (cf (some 11) (ae 0)) ah)))))) (ag (aI (.one 1) (au false .add (ae 1) (aO false (aa (cf (some 12) (ae 0)) (aa (cf (some 13) (ae 0)) ah))))) (ag (aQ (eA (ax (aL .ne (yk (ae 1)) (gI 1))) (eA (bC (ax (cf none (ae 0)))) (bC (ax (cf none (ae 0)))))) (ag (aK (aO false (aa (gS "odd") ah))) aj) aj) (ag (aQ (ax (aE (ae 1) (gI 0))) (ag (aK (aO false (aa (gS "row") (aa (ki "place" (ae 0)) ah)))) aj) aj) (ag (aQ (ax (aE (ae 1) (gI 1))) (ag (aK (aO false (aa (gS "rule") (aa (ki "number" (ae 0)) ah)))) aj) aj) (ag (aQ (ax (aE (ae 1) (gI 2))) (ag (aK (aO false (aa (gS "step") (aa (ki "place" (ae 0)) ah)))) aj) aj) (ag (aI (.one 2) (aO false (aa (gS "machine") (aa (gS "long") (aa (gS "word") (aa (gS "work") (aa (gS "bound") (aa (gS "many") (aa (gS "place") (aa (gS "deed") (aa (gS "nothing") (aa (gS "text") (aa (gS "line") ah))))))))))))) (ag (aK (aO false (aa (aE (ae 2) (au false .sub (yj (ae 1)) (gI 3))) ah))) aj))))))))))
noncomputable def cg (c:Call):GS:=ag (aQ (bC (ax (aq 71 c (aa (ae 0) ah)))) (ag (aK (aO false (aa (gS "machine") ah))) aj) aj) (ag (aQ (bC (ax (bL .list (ae 1)))) (ag (aK (aO false (aa (gS "row") (aa (gI 0) ah)))) aj) aj) (ag (dF (.tup [2,3]) (iF (ae 1)) (ag (aQ (bC (ax (aq 68 c (aa (ae 3) (aa (gI 0) (aa (au false .sub (aX .len (aa (aE (ae 0) (gI 2)) ah)) (gI 1)) ah)))))) (ag (aK (aO false (aa (gS "row") (aa (ae 2) ah)))) aj) aj) aj)) (ag (aK (fJ (ax (aL .gt (aX .len (aa (ae 1) ah)) (gI 40))) (aO false (aa (gS "long") ah)) gN)) aj)))
noncomputable def rj (c:Call):GS:=ag (aI (.one 3) gN) (ag (aI (.one 4) gN) (ag (oy (ag (aQ (ax (aL .eq (ae 0) (gI 0))) (ag (jb (.one 4) (dE 18 c (aa (ae 1) (aa (ae 2) ah)))) aj) (ag (jb (.one 4) (dE 19 c (aa (ae 1) (aa (ae 2) ah)))) aj)) aj) 5 (ag (aI (.one 3) (ae 5)) aj)) (ag (aK (fJ (ax (aL .isN (ae 3) gN)) (aO false (aa (ae 4) ah)) (aq 75 c (aa (ae 3) ah)))) aj)))
noncomputable def rh (c:Call):GS:=ag (aI (.one 3) gN) (ag (oy (ag (iR (dE 48 c (aa (ae 0) (aa (ae 1) (aa (ae 2) ah))))) aj) 4 (ag (aI (.one 3) (ae 4)) aj)) (ag (aK (fJ (ax (aL .isN (ae 3) gN)) (aO false (aa (gS "told") ah)) (aq 75 c (aa (ae 3) ah)))) aj))
noncomputable def sV (c:Call):GS:=ag (aI (.one 3) (aq 90 c (aa (ae 0) (aa (ae 1) ah)))) (ag (aQ (ax (aL .isN (ae 3) gN)) (ag (aI (.one 3) (aq 90 c (aa (ae 0) (aa (ae 2) ah)))) aj) aj) (ag (aK (fJ (ax (aL .isN (ae 3) gN)) (aO false (aa (gS "told") ah)) (ae 3))) aj))
noncomputable def sU (c:Call):GS:=ag (aI (.one 3) (aq 31 c (aa (ae 0) (aa (gI 5) ah)))) (ag (aI (.one 4) (aq 31 c (aa (ae 0) (aa (au false .add (aX .len (aa (ae 2) ah)) (gI 1)) ah)))) (ag (aQ (ax (aL .eq (ae 3) (gI 0))) (ag (aK (ae 2)) aj) aj) (ag (aQ (ax (aL .eq (ae 3) (gI 1))) (ag (aK (cq false false true (au false .add (ae 2) (au false .mul (aO false (aa (gI 0) ah)) (gI 41))) gN (gI 41))) aj) aj) (ag (aQ (ax (aL .eq (ae 3) (gI 2))) (ag (aK (aE (aO false (aa gN (aa (aX .tuple (aa (ae 2) ah)) (aa (gS "0") (aa (gI 7) (aa (bH ah) ah)))))) (aq 31 c (aa (ae 0) (aa (gI 5) ah))))) aj) aj) (ag (aK (au false .add (au false .add (au false .add (cq false false true (ae 2) gN (ae 4)) (aO false (aa (aq 72 c (aa (ae 0) (aa (gI 0) (aa (gI 0) ah)))) ah))) (cq false true false (ae 2) (ae 4) gN)) (au false .mul (aO false (aa (gI 0) ah)) (au false .mul (gI 40) (au false .sub (ae 3) (gI 3)))))) aj)))))
noncomputable def G2 (c:Call):GS:=ag (aI (.one 1) (aq 29 c (aa (ae 0) ah))) (ag (dF (.one 2) (dn (gI 5)) (ag (aI (.one 3) (aq 34 c (aa (aq 30 c (aa (ae 1) ah)) (aa (gI 3) (aa (gI 2) (aa (gI 5) ah)))))) (ag (aI (.one 4) (aq 72 c (aa (ae 1) (aa (ae 3) (aa (gI 5) ah))))) (ag (aI (.one 5) (aq 35 c (aa (ae 1) (aa (ae 3) (aa (gI 6) ah))))) (ag (dF (.one 6) (dn (gI 6)) (ag (aI (.one 7) (aq 96 c (aa (ae 1) (aa (ae 3) (aa (ae 5) ah))))) (ag (aI (.one 8) (aq 96 c (aa (ae 1) (aa (ae 3) (aa (oS false (ae 5)) ah))))) (ag (dF (.one 9) (eF (aO false (aa (ae 3) (aa (ae 4) ah)))) (ag (aI (.one 10) (iE (aa (aO false (aa (ae 7) (aa (ae 8) ah))) ah))) (ag (aI (.one 11) (aq 95 c (aa (ae 9) (aa (ae 7) (aa (ae 8) ah))))) (ag (aQ (eA (bC (ax (aq 40 c (aa (aq 94 c (aa (ae 9) (aa (ae 7) (aa (ae 8) ah)))) (aa (ae 11) ah))))) (ax (aL .ne (iE (aa (aO false (aa (ae 7) (aa (ae 8) ah))) ah)) (ae 10)))) rF aj) aj)))) aj)))) aj))))) (ag (aK u3) aj))
noncomputable def dM (c:Call):GS:=ag (dF (.one 2) (dn (gI 6)) (ag (aI (.one 3) (aq 35 c (aa (ae 0) (aa (ae 1) (aa (gI 3) ah))))) (ag (aI (.one 4) (aq 35 c (aa (ae 0) (aa (ae 1) (aa (gI 3) ah))))) (ag (aQ (ax (aL .ne (aq 44 c (aa (ae 1) (aa (ae 3) ah))) (aq 44 c (aa (ae 1) (aa (ae 4) ah))))) (ag (aK (bH (aa (ae 3) (aa (ae 4) ah)))) aj) aj) aj)))) (ag (aK gN) aj)
noncomputable def cZ (c:Call):GS:=ag (aI (.one 2) gN) (ag (aI (.one 3) (gI 0)) (ag (oy (ag (jb (.one 3) (dE 54 c (aa (ae 0) (aa (ae 1) ah)))) aj) 4 (ag (aI (.one 2) (ae 4)) aj)) (ag (aK (fJ (ax (aL .isN (ae 2) gN)) (aO false (aa (ae 3) ah)) (aq 75 c (aa (ae 2) ah)))) aj)))
noncomputable def cY (c:Call):GS:=ag (aQ (bC (ax (aq 71 c (aa (ae 0) ah)))) (ag (aK (aO false (aa (gS "machine") ah))) aj) aj) (ag (dF (.tup [2,3]) (iF (ae 1)) (ag (aQ (ax (aL .ne (bU false 1 (.one 0) (eF (ae 3)) (lG (ax (aL .notN (aq 90 c (aa (ae 1) (aa (ae 0) ah))) gN)) (bR (gI 1)))) (aO false ah))) (ag (aK (aO false (aa (gS "rule") (aa (ae 2) ah)))) aj) aj) (ag (aQ (ax (aL .ne (aq 44 c (aa (ae 0) (aa (aE (ae 3) (gI 0)) ah))) (aq 44 c (aa (ae 0) (aa (aE (ae 3) (gI 1)) ah))))) (ag (aK (aO false (aa (gS "rule") (aa (ae 2) ah)))) aj) aj) aj))) (ag (aK (aO false (aa gN ah))) aj))
noncomputable def f7 (c:Call):GS:=ag (aI (.one 2) (aq 31 c (aa (ae 0) (aa (gI 5) ah)))) (ag (aI (.one 3) (aq 35 c (aa (ae 0) (aa (ae 1) (aa (gI 3) ah))))) (ag (aI (.one 4) (aq 31 c (aa (ae 0) (aa (au false .add (aX .len (aa (ae 3) ah)) (gI 1)) ah)))) (ag (aQ (ax (aL .lt (ae 2) (gI 2))) (ag (aI (.one 5) (aq 101 c (aa (ae 0) (aa (ae 1) ah)))) (ag (aK (fJ (ax (aL .isN (ae 5) gN)) (bH (aa (aO false ah) (aa (aO false ah) ah))) (ae 5))) aj)) aj) (ag (aQ (ax (aL .eq (ae 2) (gI 2))) (ag (aI (.one 5) (bH (aa (ae 3) (aa (au false .add (au false .add (cq false false true (ae 3) gN (ae 4)) (aO false (aa (aq 72 c (aa (ae 0) (aa (gI 0) (aa (gI 0) ah)))) ah))) (cq false true false (ae 3) (ae 4) gN)) ah)))) (ag (aK (qQ (ae 5) (aE (aO false (aa (gI 1) (aa (fH (gI 1)) ah))) (aq 31 c (aa (ae 0) (aa (gI 2) ah)))))) aj)) aj) (ag (aQ (ax (aL .eq (ae 2) (gI 3))) (ag (aK (bH (aa (au false .add (au false .add (cq false false true (ae 3) gN (ae 4)) (aO false (aa (aX .len (aa (aE (ae 1) (gI 2)) ah)) ah))) (cq false true false (ae 3) (ae 4) gN)) (aa (ae 3) ah)))) aj) aj) (ag (aK (qQ (bH (aa (au false .mul (aO false (aa (gI 0) ah)) (aE (aO false (aa (gI 41) (aa (gI 41) (aa (gI 29) ah)))) (aq 31 c (aa (ae 0) (aa (gI 3) ah))))) (aa (au false .mul (aO false (aa (gI 0) ah)) (gI 41)) ah))) (aE (aO false (aa (gI 1) (aa (fH (gI 1)) ah))) (aq 31 c (aa (ae 0) (aa (gI 2) ah)))))) aj))))))
noncomputable def nW (c:Call):GS:=ag (aI (.one 1) (aq 29 c (aa (ae 0) ah))) (ag (dF (.one 2) (dn (gI 4)) (ag (aI (.one 3) (aq 34 c (aa (aq 30 c (aa (ae 1) ah)) (aa (gI 3) (aa (gI 2) (aa (gI 5) ah)))))) (ag (aI (.one 4) (aq 49 c (aa (ae 1) (aa (ae 3) ah)))) (ag (aI (.one 5) (bU false 1 (.one 0) (dn (aq 31 c (aa (ae 1) (aa (gI 6) ah)))) (bR (aE (ae 5) (aq 31 c (aa (ae 2) (aa (aX .len (aa (ae 5) ah)) ah))))))) (ag (aI (.one 6) (aO true (aa (ae 5) (aa (au false .add (aO false (aa (bH (aa (au false .mul (aO false (aa (gI 0) ah)) (gI 40)) (aa (au false .mul (aO false (aa (gI 0) ah)) (gI 40)) ah))) ah)) (ae 5)) ah)))) (ag (dF (.one 7) (dn (gI 4)) (ag (aI (.one 8) (aX (.list false) (aa (ae 5) ah))) (ag (dF (.one 9) (dn (au false .add (gI 1) (aq 31 c (aa (ae 1) (aa (gI 2) ah))))) (ag (aI (.one 10) (aq 31 c (aa (ae 1) (aa (au false .add (aX .len (aa (ae 8) ah)) (gI 1)) ah)))) (ag (aI (.one 8) (au false .add (au false .add (cq false false true (ae 8) gN (ae 10)) (aO false (aa (aq 104 c (aa (ae 1) (aa (ae 3) ah))) ah))) (cq false true false (ae 8) (ae 10) gN))) aj))) (ag (jB (ae 6) (ae 8)) aj)))) (ag (dF (.one 8) (eF (ae 6)) (ag (aI (.one 11) (iE (aa (ae 8) ah))) (ag (aI (.one 12) (aq 57 c (aa (ae 8) ah))) (ag (aQ (eA (bC (ax (aq 40 c (aa (aq 102 c (aa (ae 3) (aa (ae 12) ah))) (aa (aq 103 c (aa (ae 3) (aa (ae 8) ah))) ah))))) (ax (aL .ne (iE (aa (ae 12) ah)) (ae 11)))) rF aj) aj)))) (ag (aI (.one 13) (aq 72 c (aa (ae 1) (aa (ae 3) (aa (gI 5) ah))))) (ag (dF (.one 8) (eF (aO false (aa (ae 5) (aa (aE (ae 6) (fH (gI 1))) (aa (aO false ah) ah))))) (ag (aQ (bC (ax (aq 40 c (aa (aq 102 c (aa (ae 13) (aa (aq 57 c (aa (ae 8) ah)) ah))) (aa (aq 103 c (aa (ae 13) (aa (ae 8) ah))) ah))))) rF aj) aj)) aj))))))))) (ag (aK u3) aj))
@[simp] theorem bo {α β:Type}{r:Res α}{f:α->Mem->Res β}{k:β->Mem->Prop}:ai (r.bind f) k↔ai r λa M=>ai (f a M) k:=by cases r<;>rfl
@[simp] theorem cx {α:Type}{a:α}{M:Mem}{k:α->Mem->Prop}:ai (.ok a M) k↔k a M:=PL
@[simp] theorem OO {α:Type}{k:α->Mem->Prop}:ai (.bad:Res α) k↔False:=PL
@[simp] theorem ka {α:Type}{M:Mem}{o:Option α}{k:α->Mem->Prop}:ai (cK M o) k↔∃a,o=some a/\k a M:=by cases o<;>simp[cK]
def kC {α:Type}{r:Res α}{k:α->Mem->Prop}:ai r k↔∃a M,r=.ok a M/\k a M:=by
 cases r with
 |ok a M=>exact{λh=>⟨a,M,rfl,h⟩,λ⟨_,_,e,h⟩=>by cases e;exact h}
 |err=>simp[ai]
 |bad=>simp[ai]
def nR {x y:D}{M:Mem}{v:Bool}(px:aC 64 (view M x)=true)(py:aC 64 (view M y)=true)(h:dJ (view M x) (view M y)=v):br .eq x y M=some v:=by
 have e:qg (view M x) (view M y)=some v:=by unfold qg;rw[px,py,h];simp
 show lI M x y=_;unfold lI;rw[e]
def iY {x y:D}{M:Mem}{v:Bool}(px:aC 64 (view M x)=true)(py:aC 64 (view M y)=true)(h:dJ (view M x) (view M y)=v):br .ne x y M=some (!v):=by
 show(br .eq x y M).map (!·)=_;rw[nR px py h];rfl
section
variable{Z:Env}{M:Mem}{a b d lo hi:GE}{s:GA}{t u:GT}{k:D->Mem->Prop}{c:Call}
@[simp] theorem aT {i:Nat}:ai (ae i Z M) k↔∃d,Z[i]?.getD none=some d/\k d M:=by simp[ae]
@[simp] theorem cQ {d:D}:ai (gC d Z M) k↔k d M:=PL
@[simp] theorem dv {m:Bool}{o:mz}:ai (au m o a b Z M) k↔ai (a Z M) λx M=>ai (b Z M) λy M=>ai (fY m o x y M) k:=by simp[au]
@[simp] theorem eU {o:kr}:ai (aL o a b Z M) k↔ai (a Z M) λx M=>ai (b Z M) λy M=>∃v,br o x y M=some v/\k (.bl v) M:=by simp[aL]
@[simp] theorem LH {o o':kr}:ai (mf o o' a b d Z M) k↔ai (a Z M) λx M=>ai (b Z M) λy M=>∃v,br o x y M=some v/\if v=true then ai (d Z M) λz M=>∃v,br o' y z M=some v/\k (.bl v) M else k (.bl false) M:=by
 simp only[mf,bo,ka];refine iff_of_eq ?_
 congr 1;funext x M;congr 1;funext y M;refine propext (exists_congr λv=>and_congr_right λ_=>?_)
 cases v<;>simp
@[simp] theorem Ew:ai (fH a Z M) k↔ai (a Z M) λx M=>∃i,x=.int i/\k (.int (-i)) M:=by
 simp only[fH,bo];refine iff_of_eq ?_;congr 1;funext x M;cases x<;>simp
@[simp] theorem Ex:ai (dZ a b Z M) k↔ai (a Z M) λx M=>∃v,x=.bl v/\if v=true then ai (b Z M) k else k (.bl false) M:=by
 simp only[dZ,bo];refine iff_of_eq ?_;congr 1;funext x M;cases x<;>simp;rename_i v;cases v<;>simp
@[simp] theorem LG:ai (fJ t a b Z M) k↔ai (t Z M) λv M=>if v=true then ai (a Z M) k else ai (b Z M) k:=by
 simp only[fJ,bo];refine iff_of_eq ?_;congr 1;funext v M;cases v<;>simp
@[simp] theorem fK:ai (aE a b Z M) k↔ai (a Z M) λx M=>ai (b Z M) λy M=>∃d,bZ x y M=some d/\k d M:=by simp[aE]
@[simp] theorem mi {m hl hh:Bool}:ai (cq m hl hh a lo hi Z M) k↔ai (a Z M) λx M=>ai (lo Z M) λl M=>ai (hi Z M) λh M=>cH hl l=true/\cH hh h=true/\ai (fq m x l h M) k:=by
 simp only[cq,bo];refine iff_of_eq ?_
 congr 1;funext x M;congr 1;funext l M;congr 1;funext h M
 cases cH hl l<;>cases cH hh h<;>simp
@[simp] theorem bh {k:List D->Mem->Prop}:ai (ah Z M) k↔k [] M:=PL
@[simp] theorem aY {k:List D->Mem->Prop}:ai (aa a s Z M) k↔ai (a Z M) λx M=>ai (s Z M) λxs M=>k (x::xs) M:=by simp[aa]
@[simp] theorem gL:ai (bH s Z M) k↔ai (s Z M) λxs M=>xs.length<=sz/\k (.tup xs) M:=by
 simp only[bH,bo];refine iff_of_eq ?_;congr 1;funext xs M;unfold lZ;split<;>simp[*]
def uA {m:Bool}{xs:List D}:ai (bE m xs M) k↔xs.length<=sz/\if m=true then k (.cell M.length) (M++[xs]) else k (.lst xs) M:=by
 unfold bE;cases m<;>split<;>simp[*]
@[simp] theorem bx {xs:List D}:ai (bE false xs M) k↔xs.length<=sz/\k (.lst xs) M:=by simp[uA]
@[simp] theorem nA {xs:List D}:ai (bE true xs M) k↔xs.length<=sz/\k (.cell M.length) (M++[xs]):=by simp[uA]
@[simp] theorem jM {m:Bool}:ai (aO m s Z M) k↔ai (s Z M) λxs M=>ai (bE m xs M) k:=by simp[aO]
@[simp] theorem fx {f:Nat}:ai (aq f c s Z M) k↔ai (s Z M) λds M=>ai (c f ds M) k:=by simp[aq]
@[simp] theorem Gy {i:Nat}:ai (mT i c s Z M) k↔∃f,Z[i]?.getD none=some (.fn f)/\ai (s Z M) λds M=>ai (c f ds M) k:=by
 unfold mT;cases e:Z[i]?.getD none with
 |none=>simp
 |some d=>cases d<;>simp
@[simp] theorem dC {f:xb}:ai (aX f s Z M) k↔ai (s Z M) λds M=>ai (eY f ds M) k:=by simp[aX]
@[simp] theorem u7 {t:Ty}:ai (bL t a Z M) k↔ai (a Z M) λx M=>∃v,bI t x=some v/\k (.bl v) M:=by simp[bL]
@[simp] theorem JV {fs:List (Str×Nat)}:ai (md fs a Z M) k↔ai (a Z M) λx M=>∃y f,x=.str y/\fs.lookup y=some f/\k (.fn f) M:=by
 simp only[md,bo];refine iff_of_eq ?_;congr 1;funext x M;cases x<;>simp;exact{λ⟨_,⟨f,h,e⟩,q⟩=>{f,h,e ▸ q},λ⟨f,h,q⟩=>{_,⟨f,h,rfl⟩,q}}
@[simp] theorem O2 {fs:List (Str×Nat)}:ai (jK fs a Z M) k↔ai (a Z M) λx M=>∃y,x=.str y/\k (.bl (!(fs.lookup y).isSome)) M:=by
 simp only[jK,bo];refine iff_of_eq ?_;congr 1;funext x M;cases x<;>simp
@[simp] theorem Gx {m:Bool}:ai (mS m a Z M) k↔ai (a Z M) λx M=>∃n,x=.int n/\(-(2^62)<=n/\n<2^20)/\ai (bE m ((List.range n.toNat).map λ(k:Nat)=>D.int (k:Int)) M) k:=by
 simp only[mS,bo];refine iff_of_eq ?_;congr 1;funext x M;cases x<;>simp;rename_i n;split<;>simp[*]
variable{kb:Bool->Mem->Prop}
@[simp] theorem eO:ai (ax a Z M) kb↔ai (a Z M) λx M=>∃v,k9 M x=some v/\kb v M:=by simp[ax]
@[simp] theorem KG:ai (gW t u Z M) kb↔ai (t Z M) λv M=>if v=true then ai (u Z M) kb else kb false M:=by
 simp only[gW,bo];refine iff_of_eq ?_;congr 1;funext v M;cases v<;>simp
@[simp] theorem BD:ai (eA t u Z M) kb↔ai (t Z M) λv M=>if v=true then kb true M else ai (u Z M) kb:=by
 simp only[eA,bo];refine iff_of_eq ?_;congr 1;funext v M;cases v<;>simp
@[simp] theorem lS:ai (bC t Z M) kb↔ai (t Z M) λv M=>kb (!v) M:=by simp[bC]
variable{kf:Fl->Mem->Prop}{sa sb:GS}
noncomputable def gK (b:GS)(k:Fl->Mem->Prop):Fl->Mem->Prop
 |.next Z,M=>ai (b Z M) k
 |.ret d,M=>k (.ret d) M
 |.exc x Z,M=>k (.exc x Z) M
@[simp] theorem MW {b:GS}{x:D}:gK b kf (.exc x Z) M↔kf (.exc x Z) M:=PL
@[simp] theorem dI {b:GS}:gK b kf (.next Z) M↔ai (b Z M) kf:=PL
@[simp] theorem tP {b:GS}{d:D}:gK b kf (.ret d) M↔kf (.ret d) M:=PL
@[simp] theorem aF:ai (ag sa sb Z M) kf↔ai (sa Z M) (gK sb kf):=by
 simp only[ag,bo];refine iff_of_eq ?_;congr 1;funext fl M;cases fl<;>rfl
@[simp] theorem mE:ai (aj Z M) kf↔kf (.next Z) M:=PL
@[simp] theorem fu {i:Nat}:ai (aI (.one i) a Z M) kf↔ai (a Z M) λx M=>kf (.next (Z.set i (some x))) M:=by simp[aI,cX]
@[simp] theorem HN {l:List Nat}:ai (aI (.tup l) a Z M) kf↔ai (a Z M) λx M=>∃ds ρ1,x=.tup ds/\eP l ds Z=some ρ1/\kf (.next ρ1) M:=by
 simp only[aI,bo,ka,cx];refine iff_of_eq ?_;congr 1;funext x M;cases x<;>simp[cX]
@[simp] theorem mD:ai (fF a b d Z M) kf↔ai (d Z M) λz M=>ai (a Z M) λx M=>ai (b Z M) λy M=>∃j n ds i,x=.cell j/\y=.int n/\M[j]?=some ds/\bw ds.length n=some i/\kf (.next Z) (M.set j (ds.set i z)):=by
 simp only[fF,bo];refine iff_of_eq ?_
 congr 1;funext z M;congr 1;funext x M;congr 1;funext y M
 cases x with
 | cell j =>
   cases y with
   | int n =>
     cases e:M[j]? with
     |none=>simp[e]
     | some ds =>
       cases e2:bw ds.length n with
       |none=>simp[e,e2]
       |some i=>simp[e,e2]
   |_=>simp
 |_=>simp
@[simp] theorem zE:ai (jB a d Z M) kf↔ai (a Z M) λx M=>ai (d Z M) λz M=>∃j ds,x=.cell j/\M[j]?=some ds/\ds.length<sz/\kf (.next Z) (M.set j (ds++[z])):=by
 simp only[jB,bo];refine iff_of_eq ?_
 congr 1;funext x M;congr 1;funext z M
 cases x<;>simp;rename_i j;cases e:M[j]? with
 |none=>simp
 |some ds=>by_cases h:ds.length<sz<;>simp[h]
@[simp] theorem cb:ai (aK a Z M) kf↔ai (a Z M) λx M=>kf (.ret x) M:=by simp[aK]
@[simp] theorem Og:ai (DQ Z M) kf↔kf (.ret .non) M:=PL
@[simp] theorem Oh:ai (DR Z M) kf↔kf (.next Z) M:=PL
@[simp] theorem OK:ai (Nk Z M) kf↔False:=PL
@[simp] theorem ig:ai (aQ t sa sb Z M) kf↔ai (t Z M) λv M=>if v=true then ai (sa Z M) kf else ai (sb Z M) kf:=by
 simp only[aQ,bo];refine iff_of_eq ?_;congr 1;funext v M;cases v<;>simp
variable{kw:Walk->Mem->Prop}
@[simp] theorem fP:ai (dn a Z M) kw↔ai (a Z M) λx M=>∃n,x=.int n/\(-(2^62)<=n/\n<2^62)/\kw (λ_=>some ((List.range n.toNat).map λ(k:Nat)=>D.int (k:Int))) M:=by
 simp only[dn,bo];refine iff_of_eq ?_;congr 1;funext x M;cases x<;>simp;rename_i n;split<;>simp[*]
@[simp] theorem xg:ai (eF a Z M) kw↔ai (a Z M) λx M=>dO x=true/\kw (λM=>cm M x) M:=by
 simp only[eF,bo];refine iff_of_eq ?_;congr 1;funext x M;cases x<;>simp[dO]<;>rfl
@[simp] theorem ib:ai (iF a Z M) kw↔ai (a Z M) λx M=>(dO x&&fc x)=true/\kw (λM=>(cm M x).map (b8 0)) M:=by
 simp only[iF,bo];refine iff_of_eq ?_;congr 1;funext x M;cases x<;>simp[dO,fc]<;>rfl
@[simp] theorem Ot:ai (nJ a b Z M) kw↔ai (a Z M) λx M=>ai (b Z M) λy M=>(dO x&&dO y)=true/\kw (pw x y) M:=by
 simp only[nJ,bo];refine iff_of_eq ?_;congr 1;funext x M;congr 1;funext y M;split<;>simp[*]
noncomputable def iW (k:D->Mem->Prop):Fl->Mem->Prop
 |.ret d,M=>k d M
 |.next _,M=>k .non M
 |.exc _ _,_=>False
@[simp] theorem Om {d:D}:iW k (.ret d) M↔k d M:=PL
@[simp] theorem NW:iW k (.next Z) M↔k .non M:=PL
def aA {P:Nat->Option Df}{n f:Nat}{d:Df}{ds:List D}(e:P f=some d)(hl:ds.length=d.params)(h:ai (d.body (ak P n) (ds.map some++List.replicate (d.slots-ds.length) none) M) (iW k)):ai (ak P (n+1) f ds M) k:=by
 show ai (match P f with|none=>Res.bad|some d=>gX (ak P n) d ds M) k
 rw[e];show ai (gX (ak P n) d ds M) k;unfold gX;rw[if_pos hl];revert h;cases d.body (ak P n) (ds.map some++List.replicate (d.slots-ds.length) none) M with
 |ok fl M=>cases fl<;>exact id
 |err=>exact id
 |bad=>exact id
@[simp] theorem OP {α:Type}{a:α}{k:α->Mem->Prop}{kx:D->Mem->Prop}:jr (.ok a M) k kx↔k a M:=PL
@[simp] theorem Oj {α:Type}{x:D}{k:α->Mem->Prop}{kx:D->Mem->Prop}:jr (.err x M:Res α) k kx↔kx x M:=PL
noncomputable def ym (k kx:D->Mem->Prop):Fl->Mem->Prop
 |.ret d,M=>k d M
 |.next _,M=>k .non M
 |.exc x _,M=>kx x M
def fM {P:Nat->Option Df}{n f:Nat}{d:Df}{ds:List D}{kx:D->Mem->Prop}(e:P f=some d)(hl:ds.length=d.params)(h:ai (d.body (ak P n) (ds.map some++List.replicate (d.slots-ds.length) none) M) (ym k kx)):jr (ak P (n+1) f ds M) k kx:=by
 show jr (match P f with|none=>Res.bad|some d=>gX (ak P n) d ds M) k kx
 rw[e];show jr (gX (ak P n) d ds M) k kx;unfold gX;rw[if_pos hl];revert h;cases d.body (ak P n) (ds.map some++List.replicate (d.slots-ds.length) none) M with
 |ok fl M=>cases fl<;>exact id
 |err=>exact id
 |bad=>exact id
def fD {α:Type}{r:Res α}{x:D}{M':Mem}(h:jr r (λ_ _=>False) λy M=>y=x/\M=M'):r=.err x M':=by
 cases r with
 |ok=>exact h.elim
 |err y M=>obtain⟨rfl,rfl⟩:=h;rfl
 |bad=>exact h.elim
@[simp] theorem O0 {d:D}{kx:D->Mem->Prop}:ym k kx (.ret d) M↔k d M:=PL
@[simp] theorem Ol {kx:D->Mem->Prop}:ym k kx (.next Z) M↔k .non M:=PL
@[simp] theorem O1 {x:D}{kx:D->Mem->Prop}:ym k kx (.exc x Z) M↔kx x M:=PL
@[simp] theorem fo {f:Nat}{kx:D->Mem->Prop}:jr (dE f c s Z M) k kx↔ai (s Z M) λds M=>jr (c f ds M) k kx:=by
 unfold dE;cases s Z M<;>rfl
@[simp] theorem ij:ai (iR a Z M) kf↔jr (a Z M) (λ_ M=>kf (.next Z) M) (λx M=>kf (.exc x Z) M):=by
 unfold iR;cases a Z M<;>rfl
@[simp] theorem wc {i:Nat}:ai (jb (.one i) a Z M) kf↔jr (a Z M) (λx M=>kf (.next (Z.set i (some x))) M) (λx M=>kf (.exc x Z) M):=by
 unfold jb;cases a Z M<;>rfl
@[simp] theorem Ni {i:Nat}:ai (j6 i s Z M) kf↔ai (s Z M) λds M=>ds.length<=sz/\kf (.exc (.exc i none) Z) M:=by
 unfold j6;cases s Z M with
 |ok ds M1=>by_cases h:ds.length<=sz<;>simp[h]
 |err=>exact PL
 |bad=>exact PL
noncomputable def JS (i:Nat)(kf:Fl->Mem->Prop):Fl->Mem->Prop
 |.next Z,M=>kf (.next (Z.set i none)) M
 |.ret d,M=>kf (.ret d) M
 |.exc _ _,_=>False
noncomputable def MT (i:Nat)(h:GS)(kf:Fl->Mem->Prop):Fl->Mem->Prop
 |.exc x Z,M=>ai (h (Z.set i (some x)) M) (JS i kf)
 |fl,M=>kf fl M
@[simp] theorem zD {i:Nat}{h:GS}:ai (oy sa i h Z M) kf↔ai (sa Z M) (MT i h kf):=by
 simp only[oy,bo];refine iff_of_eq ?_;congr 1;funext fl M;cases fl with
 | exc x Z =>
   show ai ((h (Z.set i (some x)) M).bind (Bc i)) kf=ai (h (Z.set i (some x)) M) (JS i kf);simp only[bo];congr 1;funext fl M;cases fl<;>rfl
 |next Z=>rfl
 |ret d=>rfl
noncomputable def C8 (k1 k2:Nat)(h:GS)(kf:Fl->Mem->Prop):Fl->Mem->Prop
 |.exc x Z,M=>∃c p,x=.exc c p/\(c=k1\/c=k2)/\ai (h Z M) (λfl M=>match fl with|.exc _ _=>False|fl=>kf fl M)
 |fl,M=>kf fl M
@[simp] theorem Nj {k1 k2:Nat}{h:GS}:ai (mF sa k1 k2 h Z M) kf↔ai (sa Z M) (C8 k1 k2 h kf):=by
 simp only[mF,bo];refine iff_of_eq ?_;congr 1;funext fl M;cases fl with
 | exc x Z =>
   cases x with
   | exc c p =>
     by_cases hc:c=k1\/c=k2
     ·have e:lu k1 k2 h (.exc (.exc c p) Z) M=(h Z M).bind λfl M=>match fl with|.exc _ _=>.bad|fl=>.ok fl M:=if_pos hc
      rw[e];simp only[bo];refine propext {λz=>{c,p,rfl,hc,aH z λfl M q=>?_},λ⟨_,_,e,_,z⟩=>?_}
      ·cases fl with
       |exc=>exact q.elim
       |next=>exact q
       |ret=>exact q
      ·refine aH z λfl M q=>?_;cases fl with
       |exc=>exact q.elim
       |next=>exact q
       |ret=>exact q
     ·have e:lu k1 k2 h (.exc (.exc c p) Z) M=.bad:=if_neg hc;rw[e];exact propext {λz=>z.elim,λ⟨_,_,e,z,_⟩=>by cases e;exact absurd z hc}
   |_=>exact propext {λz=>z.elim,λ⟨_,_,e,_⟩=>by cases e}
 |next Z=>rfl
 |ret d=>rfl
def xV {α:Type}(f:α->D->Mem->Res α)(ds:List D):∀(m i:Nat) (a:α) (M:Mem),ds.length-i<m->i<=ds.length->fG f (λ_=>some ds) m i a M=Et f (ds.drop i) a M
 |0,i,a,M,h,_=>absurd h (Nat.not_lt_zero _)
 | m + 1, i, a, M, h, hi => by
   show(match ds[i]? with|none=>Res.ok a M|some d=>(f a d M).bind (fG f (λ_=>some ds) m (i+1)))=_
   by_cases hlt:i<ds.length
   ·rw[List.drop_eq_getElem_cons hlt,OW hlt];show(f a ds[i] M).bind _=(f a ds[i] M).bind _
    congr 1
    funext a M
    exact xV f ds m (i+1) a M `a hlt
   ·have e:i=ds.length:=`a
    subst e;rw[PY (OF _),List.drop_length];rfl
def fE {α:Type}{f:α->D->Mem->Res α}{w:Walk}{ds:List D}{a:α}{k:α->Mem->Prop}(I:Nat->α->Mem->Prop)(hw:∀i a M,I i a M->w M=some ds)(h0:I 0 a M)
 (hs:∀i d a M,ds[i]?=some d->I i a M->ai (f a d M) (I (i+1))) (hk:∀a M,I ds.length a M->k a M):ai (dX f w a M) k:=by
 have key:∀(m i:Nat) (a:α) (M:Mem),ds.length-i<m->i<=ds.length->I i a M->ai (fG f w m i a M) k:=by
  intro m;induction m with
  |zero=>intro i a M h;exact absurd h (Nat.not_lt_zero _)
  | succ m ih =>
    intro i a M h hi hI;show ai (match w M with|none=>Res.bad|some ds=>match ds[i]? with|none=>Res.ok a M|some d=>(f a d M).bind (fG f w m (i+1))) k
    rw[hw i a M hI];dsimp only;by_cases hlt:i<ds.length
    ·rw[OW hlt];simp only[bo];exact aH (hs i ds[i] a M (OW hlt) hI) λa' M' h'=>ih (i+1) a' M' `a hlt h'
    ·have e:i=ds.length:=`a
     subst e;rw[PY (OF _)];exact hk a M hI
 unfold dX;rw[hw 0 a M h0];exact key _ 0 a M `s (Qy _) h0
def cy {t:dB}{w:Walk}{gb:GS}{ds:List D}(I:Nat->Env->Mem->Prop)(hw:∀i Z M,I i Z M->w M=some ds)(h0:I 0 Z M)
 (hs:∀i d Z M,ds[i]?=some d->I i Z M->∃ρ1,cX t d Z=some ρ1/\ai (gb ρ1 M) λfl M=>∃ρ',fl=.next ρ'/\I (i+1) ρ' M) (hk:∀Z M,I ds.length Z M->kf (.next Z) M):ai (dX (ic t gb) w (.next Z) M) kf:=by
 refine fE (λi fl M=>∃Z,fl=.next Z/\I i Z M) (λi fl M ⟨Z,_,h⟩=>hw i Z M h) ⟨Z,rfl,h0⟩ ?_ ?_
 ·rintro i d fl M hd ⟨Z,rfl,hI⟩;obtain⟨ρ1,e,h⟩:=hs i d Z M hd hI;simp only[ic,bo,ka,e];exact⟨ρ1,rfl,h⟩
 ·rintro fl M ⟨Z,rfl,hI⟩;exact hk Z M hI
@[simp] theorem dS {tg:dB}{w:GW}{gb:GS}:ai (dF tg w gb Z M) kf↔ai (w Z M) λw M=>ai (dX (ic tg gb) w (.next Z) M) kf:=by simp[dF]
@[simp] theorem gj {m:Bool}{n:Nat}{tg:dB}{w:GW}{g:GB}:ai (bU m n tg w g Z M) k↔ai (w Z M) λw M=>ai (dX (dY tg g (List.replicate n none++Z)) w [] M) λacc M=>ai (bE m acc M) k:=by simp[bU]
variable{kl:List D->Mem->Prop}
@[simp] theorem EI {ge:GE}{acc:List D}:ai (bR ge Z acc M) kl↔ai (ge Z M) λx M=>acc.length<sz/\kl (acc++[x]) M:=by
 simp only[bR,bo];refine iff_of_eq ?_;congr 1;funext x M;split<;>simp[*]
def comp_map {tg:dB}{w:Walk}{ge:GE}{ds:List D}{ρ0:Env}(I:Nat->List D->Mem->Prop)(hz:ds.length<=sz)(hw:∀i acc M,I i acc M->w M=some ds)(h0:I 0 [] M)
 (hs:∀i d acc M,ds[i]?=some d->acc.length=i->I i acc M->∃ρ1,cX tg d ρ0=some ρ1/\ai (ge ρ1 M) λx M=>I (i+1) (acc++[x]) M) (hk:∀acc M,acc.length=ds.length->I ds.length acc M->kl acc M) :
 ai (dX (dY tg (bR ge) ρ0) w [] M) kl:=by
 refine fE (λi acc M=>acc.length=i/\I i acc M) (λi acc M h=>hw i acc M h.2) ⟨rfl,h0⟩ ?_ (λacc M h=>hk acc M h.1 h.2);rintro i d acc M hd ⟨hl,hI⟩;obtain⟨ρ1,e,h⟩:=hs i d acc M hd hl hI;have hi:i<ds.length:=(Oy.mp hd).1;simp only[dY,bo,ka,e,EI];exact{ρ1,rfl,aH h λx M h=>{`a,by simp[hl],h}}
end
def aG {t:GT}{A rest:GS}{Z:Env}{M:Mem}{k:Fl->Mem->Prop}(ht:t Z M=.ok false M)(h:ai (rest Z M) k):ai (ag (aQ t A aj) rest Z M) k:=by
 simp only[aF,ig];rw[ht];exact h
def bu {t:GT}{e:GE}{rest:GS}{Z:Env}{M:Mem}{v:D}{k:Fl->Mem->Prop}(ht:t Z M=.ok true M)(he:e Z M=.ok v M)(h:k (.ret v) M):ai (ag (aQ t (ag (aK e) aj) aj) rest Z M) k:=by
 simp only[aF,ig,cb];rw[ht];show ai (e Z M) _;rw[he];exact h
def b7 {e:GE}{Z:Env}{M:Mem}{v:D}{k:Fl->Mem->Prop}(he:e Z M=.ok v M)(h:k (.ret v) M):ai (ag (aK e) aj Z M) k:=by
 simp only[aF,cb];rw[he];exact h
def cV {r:Res Fl}{v:D}{M:Mem}(e:r=.ok (.ret v) M):ai r (iW λx M'=>x=v/\M'=M):=by rw[e];exact⟨rfl,rfl⟩
structure HasM0 (P:Nat->Option Df):Prop where
 is_between:P 0=some {3,3,gm}
 is_word:P 1=some {2,2,kS}
 is_place:P 2=some {2,2,jP}
 is_cost:P 3=some {1,1,kT}
 is_tuple_of:P 4=some {2,2,fR}
 is_table:P 5=some {2,2,jO}
 is_double_table:P 6=some {2,2,fj}
 is_turn:P 7=some {3,6,hU}
 is_join:P 8=some {3,7,hX}
 is_move:P 9=some {3,6,hV}
 is_put:P 10=some {3,6,i5}
 is_deed:P 11=some {3,5,hZ}
 is_machine:P 12=some {1,4,gk}
 need_machine:P 13=some {1,1,dG}
 is_deed_number:P 16=some {2,2,fO}
 need_numbers:P 17=some {2,4,cD}
 need_row:P 18=some {2,2,d3}
structure HasM (P:Nat->Option Df):Prop extends HasM0 P where
 turned:P 20=some {2,6,oY}
 joined:P 21=some {2,7,pd}
 moved:P 22=some {2,6,rg}
 put_in:P 23=some {2,6,oZ}
 done:P 24=some {2,4,vv}
 all_standing:P 25=some {3,5,i6}
structure HasP0 (P:Nat->Option Df):Prop where
 law_spread:P 28=some {2,6,gM}
 law_open:P 29=some {1,4,lg}
 law_anew:P 30=some {1,1,lh}
 law_take:P 31=some {2,5,og}
structure HasP (P:Nat->Option Df):Prop extends HasP0 P where
 law_tab:P 32=some {2,6,jQ}
 law_deed:P 33=some {3,7,jl}
 law_machine:P 34=some {4,8,gz}
instance coeHasM {P:Nat->Option Df}:Coe (HasM P) (HasM0 P):=⟨HasM.toHasM0⟩
instance coeHasP {P:Nat->Option Df}:Coe (HasP P) (HasP0 P):=⟨HasP.toHasP0⟩
@[simp] theorem O4 {d:Option D}{r:Env}:(d::r)[0]?.getD none=d:=rfl
section
variable{M:Mem}{k:D->Mem->Prop}
def lC {α:Type}{c:Prop}[Decidable c]{r:Res α}{k:α->Mem->Prop}:ai (if c then r else .bad) k↔c/\ai r k:=by split<;>simp[*]
@[simp] theorem iJ {m:Bool}{i j:Int}:ai (fY m .add (.int i) (.int j) M) k↔k (.int (i+j)) M:=PL
@[simp] theorem mB {m:Bool}{i j:Int}:ai (fY m .sub (.int i) (.int j) M) k↔k (.int (i-j)) M:=PL
@[simp] theorem OR {m:Bool}{i j:Int}:ai (fY m .mul (.int i) (.int j) M) k↔((-(2^64)<i/\i<2^64)\/(-(2^64)<j/\j<2^64))/\k (.int (i*j)) M:=lC
@[simp] theorem OS {m:Bool}{i j:Int}:ai (fY m .mod (.int i) (.int j) M) k↔0<j/\k (.int (i % j)) M:=lC
@[simp] theorem Oo {m:Bool}{i j:Int}:ai (fY m .fdiv (.int i) (.int j) M) k↔(0<j/\j<1073741824)/\k (.int (i / j)) M:=lC
@[simp] theorem lJ {m:Bool}{x y:List D}:ai (fY m .add (.tup x) (.tup y) M) k↔(x++y).length<=sz/\k (.tup (x++y)) M:=by
 show ai (lZ _ _) k↔_;unfold lZ;exact lC
@[simp] theorem m9 {m:Bool}{x y:List D}:ai (fY m .add (.lst x) (.lst y) M) k↔ai (bE m (x++y) M) k:=PL
@[simp] theorem Ou {i j:Int}:br .lt (.int i) (.int j) M=some (decide (i<j)):=rfl
@[simp] theorem Ov {i j:Int}:br .le (.int i) (.int j) M=some (decide (i<=j)):=rfl
@[simp] theorem Ow {i j:Int}:br .gt (.int i) (.int j) M=some (decide (j<i)):=rfl
@[simp] theorem Ox {i j:Int}:br .ge (.int i) (.int j) M=some (decide (j<=i)):=rfl
@[simp] theorem O5 {i j:Int}:br .eq (.int i) (.int j) M=some (i==j):=rfl
@[simp] theorem L8 {i j:Int}:br .ne (.int i) (.int j) M=some (!(i==j)):=rfl
@[simp] theorem OC {b:Bool}:k9 M (.bl b)=some b:=rfl
@[simp] theorem Od {ds:List D}:k9 M (.tup ds)=some (!ds.isEmpty):=rfl
@[simp] theorem Oe {ds:List D}:k9 M (.lst ds)=some (!ds.isEmpty):=rfl
@[simp] theorem lF {ds:List D}:ai (eY .len [.tup ds] M) k↔k (.int ds.length) M:=PL
@[simp] theorem Gh {ds:List D}:ai (eY .len [.lst ds] M) k↔k (.int ds.length) M:=PL
@[simp] theorem G5 {ds:List D}:ai (eY .all [.lst ds] M) k↔∃bs,boolsOf ds=some bs/\k (.bl (bs.all id)) M:=by
 show ai (match boolsOf ds with|some bs=>_|none=>_) k↔_
 cases boolsOf ds<;>simp
@[simp] theorem Ml {ds:List D}:ai (eY .tuple [.lst ds] M) k↔k (.tup ds) M:=PL
@[simp] theorem xl {j:Nat}:ai (eY .tuple [.cell j] M) k↔∃ds,M[j]?=some ds/\k (.tup ds) M:=by
 show ai (match M[j]? with|some xs=>_|none=>_) k↔_
 cases M[j]?<;>simp
@[simp] theorem l7 {m:Bool}{ds:List D}:ai (eY (.list m) [.lst ds] M) k↔ai (bE m ds M) k:=PL
@[simp] theorem iV {ds:List D}{i:Int}:bZ (.tup ds) (.int i) M=(bw ds.length i).bind λj=>ds[j]?:=rfl
@[simp] theorem Gn {ds:List D}{i:Int}:bZ (.lst ds) (.int i) M=(bw ds.length i).bind λj=>ds[j]?:=rfl
@[simp] theorem NS {j:Nat}{i:Int}:bZ (.cell j) (.int i) M=(M[j]?).bind λds=>(bw ds.length i).bind λj=>ds[j]?:=rfl
def eD {n i:Nat}(h:i<n):bw n (i:Int)=some i:=by
 unfold bw;rw[if_pos (Int.natCast_nonneg i),if_pos (by exact_mod_cast h)];rfl
def Gk {n:Nat}(h:0<n):bw n (-1)=some (n-1):=by
 unfold bw;rw[if_neg `a,if_pos `a]
 congr 1;omega
end
def aM {α:Type}{r:Res α}{d:α}{M:Mem}(h:ai r λx M'=>x=d/\M'=M):r=.ok d M:=by
 obtain⟨a,M',e,rfl,rfl⟩:=kC.mp h;exact e
def av {r:Res D}{d:D}{M:Mem}(h:ai r λx M'=>x=d/\M'=M):r=.ok d M:=by
 obtain⟨a,M',e,rfl,rfl⟩:=kC.mp h;exact e
section
variable{P:Nat->Option Df}(h:HasM0 P){M:Mem}
include h
theorem xr (n:Nat)(t lo hi:Int):ak P (n+1) 0 [.int t,.int lo,.int hi] M=.ok (.bl (decide (lo<=t)&&decide (t<=hi))) M:=by
 refine av (aA h.is_between rfl ?_);simp[gm,bI];by_cases h1:lo<=t<;>simp[h1]<;>omega
end
def jv {tg:dB}{w:Walk}{ge:GE}{ds:List D}{ρ0:Env}{M:Mem}{kl:List D->Mem->Prop}(f:D->D)(hz:ds.length<=sz)(hw:w M=some ds)(hs:∀d∈ds,∃ρ1,cX tg d ρ0=some ρ1/\ge ρ1 M=.ok (f d) M)(hk:kl (ds.map f) M) :
 ai (dX (dY tg (bR ge) ρ0) w [] M) kl:=by
 refine comp_map (λi acc M'=>M'=M/\acc=(ds.take i).map f) hz (λi acc M' h=>by rw[h.1];exact hw) ⟨rfl,rfl⟩ ?_ ?_
 ·rintro i d acc M' hd _ ⟨rfl,rfl⟩;obtain⟨ρ1,e1,e2⟩:=hs d (OV hd);refine{ρ1,e1,?_};rw[e2];refine{rfl,?_};have hi:i<ds.length:=(Oy.mp hd).1;rw[P9,hd];simp
 ·rintro acc M' _ ⟨rfl,rfl⟩;simpa using hk
abbrev nD (n:Nat):D:=.int (n:Int)
def aP (l:List Nat):D:=.tup (l.map nD)
inductive a8 where
 |turn (at_:Nat) (tab:List Nat) (cost:Nat)
 |join (at_ other:Nat) (tab:List (List Nat)) (cost:Nat)
 |move (at_ other cost:Nat)
 |put (at_ word cost:Nat)
noncomputable def a8.d:a8->D
 |.turn a t c=>.tup [.str "turn",nD a,aP t,nD c]
 |.join a o t c=>.tup [.str "join",nD a,nD o,.tup (t.map aP),nD c]
 |.move a o c=>.tup [.str "move",nD a,nD o,nD c]
 |.put a w c=>.tup [.str "put",nD a,nD w,nD c]
noncomputable def a8.cost:a8->Nat
 |.turn _ _ c=>c
 |.join _ _ _ c=>c
 |.move _ _ c=>c
 |.put _ _ c=>c
structure aU where
 words:Nat
 places:Nat
 deeds:List a8
noncomputable def aU.d (m:aU):D:=.tup [nD m.words,nD m.places,.tup (m.deeds.map a8.d)]
def gR (w:Nat)(t:List Nat):Prop:=t.length=w/\∀x∈t,x<w
def fT (c:Nat):Prop:=1<=c/\c<=3
noncomputable def cj (w p:Nat):a8->Prop
 |.turn a t c=>a<p/\gR w t/\fT c
 |.join a o t c=>a<p/\o<p/\(t.length=w/\∀x∈t,gR w x)/\fT c
 |.move a o c=>a<p/\o<p/\fT c
 |.put a x c=>a<p/\x<w/\fT c
structure bf (m:aU):Prop where
 w2:2<=m.words
 w4:m.words<=4
 p1:1<=m.places
 p2:m.places<=2
 d1:1<=m.deeds.length
 d6:m.deeds.length<=6
 ok:∀d∈m.deeds,cj m.words m.places d
def ay {n:Nat}(h:n<=100000):n<=sz:=OI h `d
def Ny:dq.lookup (Str.ofString "turn")=some 7:=`k
def Nx:dq.lookup (Str.ofString "join")=some 8:=`k
def Nw:dq.lookup (Str.ofString "move")=some 9:=`k
def Nv:dq.lookup (Str.ofString "put")=some 10:=`k
section
variable{Z:Env}{M:Mem}{a b:GE}{s:GA}{k:D->Mem->Prop}{kf:Fl->Mem->Prop}{t u:GT}{A rest:GS}
def bz {t rest:GS}{ρ':Env}(e:t Z M=.ok (.next ρ') M)(h:ai (rest ρ' M) kf):ai (ag t rest Z M) kf:=by
 simp only[aF];rw[e];exact h
def az {x:D}{xs:List D}(ea:a Z M=.ok x M)(es:s Z M=.ok xs M):aa a s Z M=.ok (x::xs) M:=by
 unfold aa;rw[ea];show(s Z M).bind _=_;rw[es];rfl
def lE {xs:List D}(es:s Z M=.ok xs M)(hl:xs.length<=100):aO false s Z M=.ok (.lst xs) M:=by
 unfold aO;rw[es];show(if xs.length<=sz then(if false=true then _ else Res.ok (D.lst xs) M) else .bad)=_;rw[if_pos (ay `a)]
 rfl
def A7 {xs ys:List D}(ea:a Z M=.ok (.lst xs) M)(eb:b Z M=.ok (.lst ys) M)(hl:(xs++ys).length<=100):au false .add a b Z M=.ok (.lst (xs++ys)) M:=by
 unfold au;rw[ea];show(b Z M).bind _=_;rw[eb];show(if (xs++ys).length<=sz then(if false=true then _ else Res.ok (D.lst (xs++ys)) M) else .bad)=_;rw[if_pos (ay `a)]
 rfl
def dU {i:Nat}{x:D}(e:a Z M=.ok x M):aI (.one i) a Z M=.ok (.next (Z.set i (some x))) M:=by
 unfold aI;rw[e];rfl
def aw {j:Nat}{x:D}(h:Z[j]?.getD none=some x):ae j Z M=.ok x M:=by
 unfold ae;rw[h];rfl
def bB {f:Nat}{c:Call}{xs:List D}(e:s Z M=.ok xs M):aq f c s Z M=c f xs M:=by
 unfold aq;rw[e];rfl
def ji {f i:Nat}{c:Call}{x:D}{r:Res D}(h:Z[i]?.getD none=some x)(e:c f [x] M=r):aq f c (aa (ae i) ah) Z M=r:=(bB (az (aw h) rfl)).trans e
def jN {f i j:Nat}{c:Call}{x y:D}{r:Res D}(h:Z[i]?.getD none=some x)(h2:Z[j]?.getD none=some y)(e:c f [x,y] M=r):aq f c (aa (ae i) (aa (ae j) ah)) Z M=r:=(bB (az (aw h) (az (aw h2) rfl))).trans e
def bQ {i:Nat}(h:ai (a Z M) k)(hk:∀x M',k x M'->ai (rest (Z.set i (some x)) M') kf):ai (ag (aI (.one i) a) rest Z M) kf:=by
 obtain⟨x,M',e,q⟩:=kC.mp h;simp only[aF];unfold aI;rw[e];exact hk x M' q
def iy (ht:t Z M=.ok true M)(h:ai (A Z M) (gK rest kf)):ai (ag (aQ t A aj) rest Z M) kf:=by
 simp only[aF,ig];rw[ht];exact h
def cS {b:Bool}(ht:t Z M=.ok b M)(h1:b=true->ai (A Z M) (gK rest kf))(h2:b=false->ai (rest Z M) kf):ai (ag (aQ t A aj) rest Z M) kf:=by
 cases b with
 |true=>exact iy ht (h1 rfl)
 |false=>exact aG ht (h2 rfl)
def js {b:Bool}(h:t Z M=.ok b M):bC t Z M=.ok (!b) M:=by
 unfold bC;rw[h];rfl
def eL {b:Bool}(h:a Z M=.ok (.bl b) M):ax a Z M=.ok b M:=by
 unfold ax;rw[h];rfl
def Li {x y:Bool}(h1:t Z M=.ok x M)(h2:u Z M=.ok y M):eA t u Z M=.ok (x||y) M:=by
 unfold eA;rw[h1];cases x with
 |true=>rfl
 |false=>exact h2
def G4 {x y:Bool}(h1:t Z M=.ok x M)(h2:u Z M=.ok y M):gW t u Z M=.ok (x&&y) M:=by
 unfold gW;rw[h1];cases x with
 |true=>exact h2
 |false=>rfl
def iI {x y:Bool}(h1:a Z M=.ok (.bl x) M)(h2:x=true->b Z M=.ok (.bl y) M):dZ a b Z M=.ok (.bl (x&&y)) M:=by
 unfold dZ;rw[h1];cases x with
 |true=>exact h2 rfl
 |false=>rfl
def jT {k:Bool}{x:D}(ht:t Z M=.ok k M)(h1:k=true->a Z M=.ok x M)(h2:k=false->b Z M=.ok x M):fJ t a b Z M=.ok x M:=by
 unfold fJ;rw[ht];cases k with
 |true=>exact h1 rfl
 |false=>exact h2 rfl
def xW {j:Nat}{ds:List D}(e:Z[j]?.getD none=some (.tup ds)):aX .len (aa (ae j) ah) Z M=.ok (nD ds.length) M:=by
 unfold aX;rw[az (aw e) rfl];rfl
def Lp {i j:Int}(h1:a Z M=.ok (.int i) M)(h2:b Z M=.ok (.int j) M):ax (aL .ne a b) Z M=.ok (!(i==j)) M:=by
 refine eL ?_;unfold aL;rw[h1];show(b Z M).bind _=_;rw[h2];rfl
def Kf {l h i:Int}{c:GE}(h1:a Z M=.ok (.int l) M)(h2:b Z M=.ok (.int i) M)(h3:c Z M=.ok (.int h) M):mf .le .le a b c Z M=.ok (.bl (decide (l<=i)&&decide (i<=h))) M:=by
 unfold mf;rw[h1];show(b Z M).bind _=_;rw[h2];show(if decide (l<=i)=true then _ else _)=_;cases decide (l<=i) with
 | true =>
   show(c Z M).bind _=_;rw[h3];rfl
 |false=>rfl
end
def iU {t:GT}{A rest:GS}{Z:Env}{M:Mem}{k:Fl->Mem->Prop}{R:Mem->Prop}(ht:ai (t Z M) λb M'=>b=false/\R M')(h:∀M',R M'->ai (rest Z M') k):ai (ag (aQ t A aj) rest Z M) k:=by
 simp only[aF,ig];obtain⟨b,M',e,rfl,r⟩:=kC.mp ht;rw[e];exact h M' r
noncomputable def Th:Nat->Nat->D->Prop
 |_,_,.non=>True
 |_,_,.bl _=>True
 |_,_,.int _=>True
 |_,L,.str x=>x.cps.size<=L/\x.cps.all (· < 0x110000)=true
 |n+1,L,.tup ds=>ds.length<=L/\∀d∈ds,Th n L d
 |n+1,L,.lst ds=>ds.length<=L/\∀d∈ds,Th n L d
 |_,_,_=>False
def Th.mono:∀{n n' L L':Nat}{d:D},Th n L d->n<=n'->L<=L'->Th n' L' d
 |n,n',L,L',.non,_,_,_=>by cases n'<;>trivial
 |n,n',L,L',.bl _,_,_,_=>by cases n'<;>trivial
 |n,n',L,L',.int _,_,_,_=>by cases n'<;>trivial
 | n, n', L, L', .str x, h, _, l => by
   have h:x.cps.size<=L/\x.cps.all (· < 0x110000)=true:=by cases n<;>exact h
   have:x.cps.size<=L'/\x.cps.all (· < 0x110000)=true:={OI h.1 l,h.2};cases n'<;>exact this
 |n+1,n'+1,L,L',.tup ds,h,a,l=>{OI h.1 l,λd hd=>Th.mono (h.2 d hd) (Nat.le_of_succ_le_succ a) l}
 |n+1,n'+1,L,L',.lst ds,h,a,l=>{OI h.1 l,λd hd=>Th.mono (h.2 d hd) (Nat.le_of_succ_le_succ a) l}
 |n+1,0,L,L',.tup ds,h,a,l=>`a
 |n+1,0,L,L',.lst ds,h,a,l=>`a
 |0,n',L,L',.tup ds,h,a,l=>h.elim
 |0,n',L,L',.lst ds,h,a,l=>h.elim
 |n,n',L,L',.frz _,h,_,_=>by cases n<;>exact h.elim
 |n,n',L,L',.cell _,h,_,_=>by cases n<;>exact h.elim
 |n,n',L,L',.fn _,h,_,_=>by cases n<;>exact h.elim
 |n,n',L,L',.exc _ _,h,_,_=>by cases n<;>exact h.elim
def Th.pure:∀{n L:Nat}{d:D},Th n L d->aC n d=true
 |n,L,.non,_=>by cases n<;>rfl
 |n,L,.bl _,_=>by cases n<;>rfl
 |n,L,.int _,_=>by cases n<;>rfl
 |n,L,.str x,h=>by cases n<;>exact h.2
 | n + 1, L, .tup ds, h => by
   show ds.all (aC n)=true;rw[OJ];exact λd hd=>(h.2 d hd).pure
 | n + 1, L, .lst ds, h => by
   show ds.all (aC n)=true;rw[OJ];exact λd hd=>(h.2 d hd).pure
 |0,L,.tup ds,h=>h.elim
 |0,L,.lst ds,h=>h.elim
 |n,L,.frz _,h=>by cases n<;>exact h.elim
 |n,L,.cell _,h=>by cases n<;>exact h.elim
 |n,L,.fn _,h=>by cases n<;>exact h.elim
 |n,L,.exc _ _,h=>by cases n<;>exact h.elim
def Th.view {n L:Nat}{d:D}{M:Mem}(h:Th n L d):view M d=d:=by
 cases d<;>first|rfl|(cases n<;>exact h.elim)
def Th.tup {n L:Nat}{ds:List D}(h:Th n L (.tup ds)):ds.length<=L/\∀d∈ds,Th n L d:=by
 cases n with
 |zero=>exact h.elim
 |succ n=>exact{h.1,λd hd=>(h.2 d hd).mono (Nat.le_succ n) (OF L)}
noncomputable def aZ (lo hi:Int):D->Bool
 |.int i=>decide (lo<=i)&&decide (i<=hi)
 |_=>false
def fW (w:Nat):D->Bool
 |.tup ds=>ds.length==w
 |_=>false
noncomputable def gD (w:Nat):D->Bool
 |.tup ds=>ds.length==w&&ds.all (aZ 0 ((w:Int)-1))
 |_=>false
noncomputable def jh (w:Nat):D->Bool
 |.tup ds=>ds.length==w&&ds.all (gD w)
 |_=>false
noncomputable def ku (w p:Nat):List D->Bool
 |[a,t,c]=>aZ 0 ((p:Int)-1) a&&(gD w t&&aZ 1 3 c)
 |_=>false
noncomputable def jf (w p:Nat):List D->Bool
 |[a,o,t,c]=>aZ 0 ((p:Int)-1) a&&(aZ 0 ((p:Int)-1) o&&(jh w t&&aZ 1 3 c))
 |_=>false
noncomputable def jI (w p:Nat):List D->Bool
 |[a,o,c]=>aZ 0 ((p:Int)-1) a&&(aZ 0 ((p:Int)-1) o&&aZ 1 3 c)
 |_=>false
noncomputable def mI (w p:Nat):List D->Bool
 |[a,x,c]=>aZ 0 ((p:Int)-1) a&&(aZ 0 ((w:Int)-1) x&&aZ 1 3 c)
 |_=>false
noncomputable def cF (w p:Nat)(s:Str)(ds:List D):Bool:=
 if s="turn" then ku w p ds else if s="join" then jf w p ds else if s="move" then jI w p ds else if s="put" then mI w p ds else false
noncomputable def ff (w p:Nat):D->Bool
 |.tup (.str s::ds)=>cF w p s ds
 |_=>false
noncomputable def fX:D->Bool
 |.tup ds=>decide (1<=ds.length)&&decide (ds.length<=6)
 |_=>false
def pW:D->List D
 |.tup ds=>ds
 |_=>[]
def eE:D->Nat
 |.int i=>i.toNat
 |_=>0
def nV {lo hi:Int}{d:D}(h:aZ lo hi d=true)(h0:0<=lo):d=nD (eE d)/\lo<=(eE d:Int)/\(eE d:Int)<=hi:=by
 cases d with
 | int i =>
   simp[aZ] at h;refine{?_,?_}
   ·show D.int i=D.int ((i.toNat:Nat):Int);rw[QF `a]
   ·show lo<=((i.toNat:Nat):Int)/\((i.toNat:Nat):Int)<=hi;rw[QF `a]
    exact h
 |_=>cases h
noncomputable def eT:D->Bool
 |.tup [a,b,c]=>aZ 2 4 a&&(aZ 1 2 b&&(fX c&&(pW c).all (ff (eE a) (eE b))))
 |_=>false
def uN {d:D}(h:fW 3 d=false):eT d=false:=by
 match d,h with
 |.tup [a,b,c],h=>cases h
 |.tup [],_=>rfl
 |.tup [_],_=>rfl
 |.tup [_,_],_=>rfl
 |.tup (_::_::_::_::r),_=>rfl
 |.non,_=>rfl
 |.bl _,_=>rfl
 |.int _,_=>rfl
 |.str _,_=>rfl
 |.lst _,_=>rfl
 |.frz _,_=>rfl
 |.cell _,_=>rfl
 |.fn _,_=>rfl
 |.exc _ _,_=>rfl
structure yF (P:Nat->Option Df):Prop where
 is_between:P 0=some {3,3,gm}
 is_word:P 1=some {2,2,kS}
 is_place:P 2=some {2,2,jP}
 is_cost:P 3=some {1,1,kT}
 is_tuple_of:P 4=some {2,2,fR}
 is_table:P 5=some {2,2,jO}
 is_double_table:P 6=some {2,2,fj}
 is_turn:P 7=some {3,6,hU}
 is_join:P 8=some {3,7,hX}
 is_move:P 9=some {3,6,hV}
 is_put:P 10=some {3,6,i5}
 is_deed:P 11=some {3,5,hZ}
 is_machine:P 12=some {1,4,gk}
def oa (f:D->Bool):∀ds:List D,boolsOf (ds.map λd=>.bl (f d))=some (ds.map f)
 |[]=>rfl
 |d::r=>by simp[boolsOf,oa f r]
def all_eq {w:GW}{ge:GE}{Z:Env}{M:Mem}{ds:List D}(f:D->Bool)(hw:ai (w Z M) λwk M'=>M'=M/\wk M=some ds)(hz:ds.length<=sz)(he:∀d∈ds,ge (some d::Z) M=.ok (.bl (f d)) M) :
 aX .all (aa (bU false 1 (.one 0) w (bR ge)) ah) Z M=.ok (.bl (ds.all f)) M:=by
 refine av ?_;simp only[dC,aY,gj,bh];refine aH hw λwk M' ⟨e1,e2⟩=>?_;subst e1;refine jv (λd=>.bl (f d)) hz e2 (λd hd=>{some d::Z,rfl,he d hd}) ?_;simp only[bx,OM,G5];refine{hz,_,oa f ds,?_,trivial}
 congr 1
 rw[List.all_map];rfl
def uU {k L:Nat}{x:D}(hx:Th k L x){t:Ty}(h:((¬ ∃s,x=.str s)/\t=.str\/(¬ ∃s,x=.tup s)/\t=.tuple)):bI t x=some false:=by
 rcases h with⟨h,rfl⟩|⟨h,rfl⟩<;>cases x<;>first|rfl|exact absurd {_,rfl} h|(cases k<;>exact hx.elim)
section
variable{P:Nat->Option Df}(h:yF P){M:Mem}{k L:Nat}{d:D}
include h
theorem jS (n:Nat)(hd:Th k L d)(lo hi:Int):ak P (n+1) 0 [d,.int lo,.int hi] M=.ok (.bl (aZ lo hi d)) M:=by
 cases d with
 | int t =>
   refine av (aA h.is_between rfl ?_);simp[gm,bI,aZ];by_cases h1:lo<=t<;>simp[h1]<;>omega
 |fn j=>cases k<;>exact hd.elim
 |exc y p=>cases k<;>exact hd.elim
 |_=>exact av (aA h.is_between rfl (cV rfl))
theorem tZ (n:Nat){w:Nat}(hd:Th k L d):ak P (n+2) 1 [nD w,d] M=.ok (.bl (aZ 0 ((w:Int)-1) d)) M:=by
 refine av (aA h.is_word rfl ?_);simp[kS,jS h _ hd]
theorem g7 (n:Nat){w:Nat}(hd:Th k L d):ak P (n+2) 2 [nD w,d] M=.ok (.bl (aZ 0 ((w:Int)-1) d)) M:=by
 refine av (aA h.is_place rfl ?_);simp[jP,jS h _ hd]
theorem lV (n:Nat)(hd:Th k L d):ak P (n+2) 3 [d] M=.ok (.bl (aZ 1 3 d)) M:=by
 refine av (aA h.is_cost rfl ?_);simp[kT,jS h _ hd]
theorem nt (n:Nat){w:Nat}(hd:Th k L d):ak P (n+1) 4 [nD w,d] M=.ok (.bl (fW w d)) M:=by
 refine av (aA h.is_tuple_of rfl ?_);cases d with
 |fn j=>cases k<;>exact hd.elim
 |exc y p=>cases k<;>exact hd.elim
 | tup ds =>
   simp[fR,bI,fW];by_cases e:ds.length=w
   ·simp[e]
   ·have:¬ ((ds.length:Int)=(w:Int)):=`a
    simp[e,this]
 |_=>exact cV rfl
theorem vY (n:Nat){w:Nat}(hd:Th k L d)(hL:L<=100):ak P (n+3) 5 [nD w,d] M=.ok (.bl (gD w d)) M:=by
 refine av (aA h.is_table rfl ?_);have e:=nt h (n+1) (w:=w) (M:=M) hd;simp only[jO,aF,cb,Ex,fx,aY,bh,aT,Qm,List.map_nil,QC,Qg,O9,Pb,Pm,Pp,exists_eq_left'];rw[e];refine{_,rfl,?_};cases d with
 | tup ds =>
   have ht:=hd.tup;by_cases el:ds.length=w
   ·have:fW w (.tup ds)=true:=by simp[fW,el]
    rw[this,if_pos rfl,all_eq (ds:=ds) (aZ 0 ((w:Int)-1)) (by simp;exact⟨rfl,rfl⟩) (ay `a) (λd hd=>av (by simp[tZ h n (ht.2 d hd)]))]
    exact{by simp[gD,el],rfl}
   ·have:fW w (.tup ds)=false:=by simp[fW,el]
    rw[this,if_neg `s]
    exact{by simp[gD,el],rfl}
 |_=>exact⟨rfl,rfl⟩
theorem BL (n:Nat){w:Nat}(hd:Th k L d)(hL:L<=100):ak P (n+4) 6 [nD w,d] M=.ok (.bl (jh w d)) M:=by
 refine av (aA h.is_double_table rfl ?_);have e:=nt h (n+2) (w:=w) (M:=M) hd;simp only[fj,aF,cb,Ex,fx,aY,bh,aT,Qm,List.map_nil,QC,Qg,O9,Pb,Pm,Pp,exists_eq_left'];rw[e];refine{_,rfl,?_};cases d with
 | tup ds =>
   have ht:=hd.tup;by_cases el:ds.length=w
   ·have:fW w (.tup ds)=true:=by simp[fW,el]
    rw[this,if_pos rfl,all_eq (ds:=ds) (gD w) (by simp;exact⟨rfl,rfl⟩) (ay `a) (λd hd=>av (by simp[vY h n (ht.2 d hd) hL]))]
    exact{by simp[jh,el],rfl}
   ·have:fW w (.tup ds)=false:=by simp[fW,el]
    rw[this,if_neg `s]
    exact{by simp[jh,el],rfl}
 |_=>exact⟨rfl,rfl⟩
omit h in
theorem qf {j c:Nat}{ds:List D}{Z:Env}(e:Z[j]?.getD none=some (.tup ds))(hc:ds.length≠c):(ax (aL .ne (aX .len (aa (ae j) ah)) (gC (.int (c:Int)))):GT) Z M=.ok true M:=by
 rw[Lp (xW e) rfl,PJ.mpr `a]
 rfl
theorem BG (n:Nat){w p:Nat}{ds:List D}(hd:∀d∈ds,Th k L d)(hL:L<=100)(hl:ds.length<=100):ak P (n+4) 7 [nD w,nD p,.tup ds] M=.ok (.bl (ku w p ds)) M:=by
 refine av (aA h.is_turn rfl ?_)
 match ds,hd,hl with
 | [a, t, c], hd, _ =>
   show ai (hU (ak P (n+3)) [some (nD w),some (nD p),some (.tup [a,t,c]),none,none,none] M) _;unfold hU;refine aG rfl (bz rfl ?_);show ai _ _;exact b7 (iI (jN rfl rfl (g7 h (n+1) (hd a (.head _)))) λ_=>iI (jN rfl rfl (vY h n (hd t (.tail _ (.head _))) hL)) λ_=>ji rfl (lV h (n+1) (hd c (.tail _ (.tail _ (.head _)))))) ⟨rfl,rfl⟩
 |[],_,_=>exact cV rfl
 |[_],_,_=>exact cV rfl
 |[_,_],_,_=>exact cV rfl
 | a :: b :: c :: d :: r, _, _ =>
   show ai (hU (ak P (n+3)) [some (nD w),some (nD p),some (.tup (a::b::c::d::r)),none,none,none] M) _;exact bu (qf (c:=3) (ds:=a::b::c::d::r) rfl (λz=>by simp at z)) rfl ⟨rfl,rfl⟩
theorem BK (n:Nat){w p:Nat}{ds:List D}(hd:∀d∈ds,Th k L d)(hL:L<=100)(hl:ds.length<=100):ak P (n+5) 8 [nD w,nD p,.tup ds] M=.ok (.bl (jf w p ds)) M:=by
 refine av (aA h.is_join rfl ?_)
 match ds,hd,hl with
 | [a, o, t, c], hd, _ =>
   show ai (hX (ak P (n+4)) [some (nD w),some (nD p),some (.tup [a,o,t,c]),none,none,none,none] M) _;unfold hX;refine aG rfl (bz rfl ?_);refine cS (Li (js (eL (jN rfl rfl (g7 h (n+2) (hd a (.head _)))))) (js (eL (jN rfl rfl (g7 h (n+2) (hd o (.tail _ (.head _)))))))) (λe=>?_) λe=>?_
   ·refine b7 (v:=.bl false) rfl {?_,rfl};show D.bl false=.bl (_&&(_&&_));cases q:aZ 0 ((p:Int)-1) a with
    |false=>rfl
    | true =>
      rw[q] at e;cases q2:aZ 0 ((p:Int)-1) o with
      |false=>rfl
      |true=>rw[q2] at e;cases e
   ·refine b7 (iI (jN rfl rfl (BL h n (hd t (.tail _ (.tail _ (.head _)))) hL)) λ_=>ji rfl (lV h (n+2) (hd c (.tail _ (.tail _ (.tail _ (.head _))))))) {?_,rfl};show _=D.bl (aZ 0 ((p:Int)-1) a&&(aZ 0 ((p:Int)-1) o&&_));cases q:aZ 0 ((p:Int)-1) a with
    |false=>rw[q] at e;cases e
    | true =>
      rw[q] at e;cases q2:aZ 0 ((p:Int)-1) o with
      |false=>rw[q2] at e;cases e
      |true=>rfl
 |[],_,_=>exact cV rfl
 |[_],_,_=>exact cV rfl
 |[_,_],_,_=>exact cV rfl
 |[_,_,_],_,_=>exact cV rfl
 | a :: b :: c :: d :: e :: r, _, _ =>
   show ai (hX (ak P (n+4)) [some (nD w),some (nD p),some (.tup (a::b::c::d::e::r)),none,none,none,none] M) _;exact bu (qf (c:=4) (ds:=a::b::c::d::e::r) rfl (λz=>by simp at z)) rfl ⟨rfl,rfl⟩
theorem BJ (n:Nat){w p:Nat}{ds:List D}(hd:∀d∈ds,Th k L d)(hL:L<=100)(hl:ds.length<=100):ak P (n+3) 9 [nD w,nD p,.tup ds] M=.ok (.bl (jI w p ds)) M:=by
 refine av (aA h.is_move rfl ?_)
 match ds,hd,hl with
 | [a, t, c], hd, _ =>
   show ai (hV (ak P (n+2)) [some (nD w),some (nD p),some (.tup [a,t,c]),none,none,none] M) _;unfold hV;refine aG rfl (bz rfl ?_);show ai _ _;exact b7 (iI (jN rfl rfl (g7 h n (hd a (.head _)))) λ_=>iI (jN rfl rfl (g7 h n (hd t (.tail _ (.head _))))) λ_=>ji rfl (lV h n (hd c (.tail _ (.tail _ (.head _)))))) ⟨rfl,rfl⟩
 |[],_,_=>exact cV rfl
 |[_],_,_=>exact cV rfl
 |[_,_],_,_=>exact cV rfl
 | a :: b :: c :: d :: r, _, _ =>
   show ai (hV (ak P (n+2)) [some (nD w),some (nD p),some (.tup (a::b::c::d::r)),none,none,none] M) _;exact bu (qf (c:=3) (ds:=a::b::c::d::r) rfl (λz=>by simp at z)) rfl ⟨rfl,rfl⟩
theorem Fh (n:Nat){w p:Nat}{ds:List D}(hd:∀d∈ds,Th k L d)(hL:L<=100)(hl:ds.length<=100):ak P (n+3) 10 [nD w,nD p,.tup ds] M=.ok (.bl (mI w p ds)) M:=by
 refine av (aA h.is_put rfl ?_)
 match ds,hd,hl with
 | [a, t, c], hd, _ =>
   show ai (i5 (ak P (n+2)) [some (nD w),some (nD p),some (.tup [a,t,c]),none,none,none] M) _;unfold i5;refine aG rfl (bz rfl ?_);show ai _ _;exact b7 (iI (jN rfl rfl (g7 h n (hd a (.head _)))) λ_=>iI (jN rfl rfl (tZ h n (hd t (.tail _ (.head _))))) λ_=>ji rfl (lV h n (hd c (.tail _ (.tail _ (.head _)))))) ⟨rfl,rfl⟩
 |[],_,_=>exact cV rfl
 |[_],_,_=>exact cV rfl
 |[_,_],_,_=>exact cV rfl
 | a :: b :: c :: d :: r, _, _ =>
   show ai (i5 (ak P (n+2)) [some (nD w),some (nD p),some (.tup (a::b::c::d::r)),none,none,none] M) _;exact bu (qf (c:=3) (ds:=a::b::c::d::r) rfl (λz=>by simp at z)) rfl ⟨rfl,rfl⟩
omit h in
theorem mO {w p:Nat}{ds:List D}:cF w p "turn" ds=ku w p ds:=by unfold cF;rw[if_pos rfl]
omit h in
theorem mM {w p:Nat}{ds:List D}:cF w p "join" ds=jf w p ds:=by unfold cF;rw[if_neg `k,if_pos rfl]
omit h in
theorem mL {w p:Nat}{ds:List D}:cF w p "move" ds=jI w p ds:=by unfold cF;rw[if_neg `k,if_neg `k,if_pos rfl]
omit h in
theorem mK {w p:Nat}{ds:List D}:cF w p "put" ds=mI w p ds:=by unfold cF;rw[if_neg `k,if_neg `k,if_neg `k,if_pos rfl]
omit h in
theorem uw {w p:Nat}{ds:List D}{s:Str}(e1:¬ s="turn")(e2:¬ s="join")(e3:¬ s="move")(e4:¬ s="put"):cF w p s ds=false:=by unfold cF;rw[if_neg e1,if_neg e2,if_neg e3,if_neg e4]
omit h in
theorem xt {s:Str}(e1:¬ s="turn")(e2:¬ s="join")(e3:¬ s="move")(e4:¬ s="put"):dq.lookup s=none:=by
 unfold dq;simp only[List.lookup,PJ.mpr e1,PJ.mpr e2,PJ.mpr e3,PJ.mpr e4]
theorem nN (n:Nat){w p f:Nat}{s:Str}{ds:List D}{v:Bool}(lk:dq.lookup s=some f)(q:ak P (n+5) f [nD w,nD p,.tup ds] M=.ok (.bl v) M):ak P (n+6) 11 [nD w,nD p,.tup (.str s::ds)] M=.ok (.bl v) M:=by
 refine av (aA h.is_deed rfl ?_);simp[-List.lookup_isSome_iff,hZ,bI,bw,lk,fq,aS,cH,cut,q]
theorem C3 (n:Nat){w p:Nat}{s:Str}{ds:List D}(lk:dq.lookup s=none):ak P (n+6) 11 [nD w,nD p,.tup (.str s::ds)] M=.ok (.bl false) M:=by
 refine av (aA h.is_deed rfl ?_);have e:(dq.lookup s).isSome=false:=by rw[lk];rfl
 simp[-List.lookup_isSome_iff,-List.lookup_eq_none_iff,-Option.isSome_eq_false_iff,hZ,bI,bw,e];exact lk
theorem BN (n:Nat){w p:Nat}(hd:Th k L d)(hL:L<=100):ak P (n+6) 11 [nD w,nD p,d] M=.ok (.bl (ff w p d)) M:=by
 cases d with
 |fn j=>cases k<;>exact hd.elim
 |exc y p=>cases k<;>exact hd.elim
 | tup xs =>
   have ht:=hd.tup;cases xs with
   |nil=>exact av (aA h.is_deed rfl (cV rfl))
   | cons x ds =>
     have hx:=ht.2 x OT;have hds:∀d∈ds,Th k L d:=λd hd=>ht.2 d (ON _ hd);have hl:ds.length<=100:=by have:=ht.1;simp at this;omega
     by_cases hs:∃s,x=.str s
     ·obtain⟨s,rfl⟩:=hs;show _=Res.ok (D.bl (cF w p s ds)) M;by_cases e1:s="turn"
      ·subst e1;rw[mO];exact nN h n Ny (BG h (n+1) hds hL hl)
      by_cases e2:s="join"
      ·subst e2;rw[mM];exact nN h n Nx (BK h n hds hL hl)
      by_cases e3:s="move"
      ·subst e3;rw[mL];exact nN h n Nw (BJ h (n+2) hds hL hl)
      by_cases e4:s="put"
      ·subst e4;rw[mK];exact nN h n Nv (Fh h (n+2) hds hL hl)
      rw[uw e1 e2 e3 e4];exact C3 h n (xt e1 e2 e3 e4)
     ·have e1:ff w p (.tup (x::ds))=false:=by cases x<;>first|rfl|exact absurd {_,rfl} hs
      have e2:=uU hx (t:=.str) (.inl ⟨hs,rfl⟩);rw[e1];refine av (aA h.is_deed rfl ?_);have e3:bI .tuple (.tup (x::ds))=some true:=rfl;simp[hZ,bw,e2,e3]
 |_=>exact av (aA h.is_deed rfl (cV rfl))
theorem Cr (n:Nat)(hd:Th k L d)(hn:fW 3 d=false):ak P (n+7) 12 [d] M=.ok (.bl false) M:=by
 refine av (aA h.is_machine rfl ?_);have e:ak P (n+6) 4 [.int 3,d] M=.ok (.bl (fW 3 d)) M:=nt h (n+5) (w:=3) (M:=M) hd;rw[hn] at e;simp[gk,e]
theorem Lq (n:Nat){a b c:D}(hd:Th k L (.tup [a,b,c]))(hL:L<=100):ak P (n+7) 12 [.tup [a,b,c]] M=.ok (.bl (eT (.tup [a,b,c]))) M:=by
 refine av (aA h.is_machine rfl ?_);have ht:=hd.tup.2;simp only[OL,Pa,or_false,forall_eq_or_imp,forall_eq] at ht;have e:ak P (n+6) 4 [.int 3,.tup [a,b,c]] M=.ok (.bl true) M:=nt h (n+5) (w:=3) (M:=M) hd;have b1:=jS h (n+5) (M:=M) ht.1 2 4;have b2:=jS h (n+5) (M:=M) ht.2.1 1 2;simp only[gk,aF,mE,cb,dI,tP,ig,lS,eO,BD,HN,cQ,fx,aY,bh,aT,u7,Qm,List.map_nil,QC,Qg,O9,Pb,Pm,Pp,exists_eq_left'];rw[e];refine{_,rfl,?_};rw[if_neg `s]
 refine{_,_,rfl,rfl,_,rfl,?_};rw[b1];refine{_,rfl,?_};by_cases c1:aZ 2 4 a=false
 ·rw[c1,if_pos `d,if_pos trivial]
  exact{by simp[eT,c1],rfl}
 have c1:aZ 2 4 a=true:=by simpa using c1
 rw[c1,if_neg `s]
 refine{_,rfl,?_};rw[b2];refine{_,rfl,?_};by_cases c2:aZ 1 2 b=false
 ·rw[c2,if_pos `d]
  exact{by simp[eT,c2],rfl}
 have c2:aZ 1 2 b=true:=by simpa using c2
 rw[c2,if_neg `s]
 refine{_,rfl,?_};obtain⟨ea,_,_⟩:=nV c1 `d
 obtain⟨eb,_,_⟩:=nV c2 `d
 cases c with
 |fn j=>exact absurd ht.2.2 (by cases k<;>exact id)
 |exc y p=>exact absurd ht.2.2 (by cases k<;>exact id)
 | tup ds =>
   have hc:=ht.2.2.tup;refine{true,rfl,true,rfl,?_};rw[if_neg `s]
   simp only[LH,cQ];refine dC.mpr (aY.mpr (aT.mpr {_,rfl,bh.mpr (lF.mpr {_,rfl,?_})}));by_cases l1:(1:Int)<=(ds.length:Int)
   ·rw[decide_eq_true l1,if_pos `d]
    refine{_,rfl,_,rfl,?_};by_cases l6:(ds.length:Int)<=6
    ·rw[decide_eq_true l6,if_neg `s]
     have lb:fX (.tup ds)=true:=by simp[fX];omega
     rw[all_eq (ds:=ds) (ff (eE a) (eE b)) (by simp;exact⟨rfl,rfl⟩) (ay `a) (λd hd=>av (by
      have q:=BN h n (w:=eE a) (p:=eE b) (M:=M) (hc.2 d hd) hL;rw[<- ea,<- eb] at q;simp[q]))]
     refine{?_,rfl};show D.bl (ds.all (ff (eE a) (eE b)))=D.bl (aZ 2 4 a&&(aZ 1 2 b&&(fX (.tup ds)&&ds.all (ff (eE a) (eE b)))));rw[c1,c2,lb];simp
    ·rw[decide_eq_false l6,if_pos `d]
     refine{?_,rfl};have lb:fX (.tup ds)=false:=by simp[fX];omega
     simp[eT,lb]
   ·rw[decide_eq_false l1,if_neg `s]
    refine{_,rfl,?_};rw[if_pos `d]
    refine{?_,rfl};have lb:fX (.tup ds)=false:=by simp[fX];omega
    simp[eT,lb]
 | _ =>
   refine{false,rfl,false,rfl,?_};rw[if_pos `d]
   exact{by simp[eT,fX],rfl}
theorem oq (n:Nat)(hd:Th k L d)(hL:L<=100):ak P (n+7) 12 [d] M=.ok (.bl (eT d)) M:=by
 by_cases hn:fW 3 d=false
 ·rw[Cr h n hd hn,uN hn]
 ·match d,hd,hn with
  |.tup [a,b,c],hd,_=>exact Lq h n hd hL
  |.tup [],_,hn=>exact absurd rfl hn
  |.tup [_],_,hn=>exact absurd rfl hn
  |.tup [_,_],_,hn=>exact absurd rfl hn
  |.tup (_::_::_::_::r),_,hn=>exact absurd (by simp[fW]) hn
  |.non,_,hn=>exact absurd rfl hn
  |.bl _,_,hn=>exact absurd rfl hn
  |.int _,_,hn=>exact absurd rfl hn
  |.str _,_,hn=>exact absurd rfl hn
  |.lst _,_,hn=>exact absurd rfl hn
  |.frz _,_,hn=>exact absurd rfl hn
  |.cell _,_,hn=>exact absurd rfl hn
  |.fn _,_,hn=>exact absurd rfl hn
  |.exc _ _,_,hn=>exact absurd rfl hn
omit h in
theorem dP {lo hi:Int}{n:Nat}(h1:lo<=(n:Int))(h2:(n:Int)<=hi):aZ lo hi (nD n)=true:=by simp[aZ];omega
omit h in
theorem tR {w:Nat}{t:List Nat}(ht:gR w t):gD w (aP t)=true:=by
 have e:(t.map nD).all (aZ 0 ((w:Int)-1))=true:=by
  rw[OJ];intro x hx;obtain⟨i,hi,rfl⟩:=Pt.mp hx;have:=ht.2 i hi;exact dP `a `a
 show((t.map nD).length==w&&(t.map nD).all (aZ 0 ((w:Int)-1)))=true;rw[e,OM,ht.1];simp
omit h in
theorem AM {w p:Nat}{d:a8}(hd:cj w p d):ff w p d.d=true:=by
 cases d with
 | turn a t c =>
   obtain⟨h1,h2,h3⟩:=hd;unfold fT at h3;show cF w p "turn" _=true;rw[mO];simp only[ku];rw[dP `a `a,tR h2,dP `a `a];rfl
 | join a o t c =>
   obtain⟨h1,h2,h3,h4⟩:=hd;unfold fT at h4;show cF w p "join" _=true;rw[mM];simp only[jf];have e:jh w (.tup (t.map aP))=true:=by
    have e:(t.map aP).all (gD w)=true:=by
     rw[OJ];intro x hx;obtain⟨i,hi,rfl⟩:=Pt.mp hx;exact tR (h3.2 i hi)
    show((t.map aP).length==w&&(t.map aP).all (gD w))=true;rw[e,OM,h3.1];simp
   rw[dP `a `a,dP `a `a,e,dP `a `a];rfl
 | move a o c =>
   obtain⟨h1,h2,h3⟩:=hd;unfold fT at h3;show cF w p "move" _=true;rw[mL];simp only[jI];rw[dP `a `a,dP `a `a,dP `a `a];rfl
 | put a o c =>
   obtain⟨h1,h2,h3⟩:=hd;unfold fT at h3;show cF w p "put" _=true;rw[mK];simp only[mI];rw[dP `a `a,dP `a `a,dP `a `a];rfl
omit h in
theorem fC {m:aU}(hm:bf m):eT m.d=true:=by
 have w2:=hm.w2;have w4:=hm.w4;have p1:=hm.p1;have p2:=hm.p2;have l1:=hm.d1;have l6:=hm.d6;have e:(m.deeds.map a8.d).all (ff m.words m.places)=true:=by
  rw[OJ];intro x hx;obtain⟨i,hi,rfl⟩:=Pt.mp hx;exact AM (hm.ok i hi)
 have e2:fX (.tup (m.deeds.map a8.d))=true:=by simp[fX];omega
 show(aZ 2 4 (nD m.words)&&(aZ 1 2 (nD m.places)&&(fX (.tup (m.deeds.map a8.d))&&(m.deeds.map a8.d).all (ff m.words m.places))))=true;rw[dP `a `a,dP `a `a,e,e2];rfl
end
noncomputable def tQ:Nat->Nat->D->Bool
 |_,_,.non=>true
 |_,_,.bl _=>true
 |_,_,.int _=>true
 |_,L,.str x=>decide (x.cps.size<=L)&&x.cps.all (· < 0x110000)
 |n+1,L,.tup ds=>decide (ds.length<=L)&&ds.all (tQ n L)
 |n+1,L,.lst ds=>decide (ds.length<=L)&&ds.all (tQ n L)
 |_,_,_=>false
def pC:∀{n L:Nat}{d:D},tQ n L d=true->Th n L d
 |n,L,.non,_=>by cases n<;>trivial
 |n,L,.bl _,_=>by cases n<;>trivial
 |n,L,.int _,_=>by cases n<;>trivial
 | n, L, .str x, h => by
   have q:(decide (x.cps.size<=L)&&x.cps.all (· < 0x110000))=true:=by cases n<;>exact h
   simp only[OB,decide_eq_true_eq] at q;have q:x.cps.size<=L/\x.cps.all (· < 0x110000)=true:=q;cases n<;>exact q
 | n + 1, L, .tup ds, h => by
   have h:(decide (ds.length<=L)&&ds.all (tQ n L))=true:=h;simp only[OB,decide_eq_true_eq] at h;exact{h.1,λd hd=>pC (OJ.mp h.2 d hd)}
 | n + 1, L, .lst ds, h => by
   have h:(decide (ds.length<=L)&&ds.all (tQ n L))=true:=h;simp only[OB,decide_eq_true_eq] at h;exact{h.1,λd hd=>pC (OJ.mp h.2 d hd)}
 |0,L,.tup ds,h=>by cases h
 |0,L,.lst ds,h=>by cases h
 |n,L,.frz _,h=>by cases n<;>cases h
 |n,L,.cell _,h=>by cases n<;>cases h
 |n,L,.fn _,h=>by cases n<;>cases h
 |n,L,.exc _ _,h=>by cases n<;>cases h
def zf {w:Nat}{t:List Nat}(h:gR w t)(w4:w<=4):Th 2 6 (aP t):=by
 refine{by have:=h.1;simp;omega,λd hd=>?_}
 obtain⟨i,_,rfl⟩:=Pt.mp hd;trivial
def sY {n:Nat}{z:Str}(h:tQ 0 6 (.str z)=true):Th n 6 (.str z):=(pC h).mono (Qy n) (OF 6)
def iB {n:Nat}{i:Int}:Th n 6 (.int i):=by cases n<;>trivial
def GQ {w p:Nat}{d:a8}(h:cj w p d)(w4:w<=4):Th 4 6 d.d:=by
 cases d with
 | turn a t c =>
   refine{`s,λx hx=>?_}
   simp only[OL,Pa,or_false] at hx;rcases hx with rfl|rfl|rfl|rfl
   ·exact sY `k
   ·exact iB
   ·exact(zf h.2.1 w4).mono `d `d
   ·exact iB
 | join a o t c =>
   refine{`s,λx hx=>?_}
   simp only[OL,Pa,or_false] at hx;rcases hx with rfl|rfl|rfl|rfl|rfl
   ·exact sY `k
   ·exact iB
   ·exact iB
   ·refine{by have:=h.2.2.1.1;simp;omega,λy hy=>?_}
    obtain⟨z,hz,rfl⟩:=Pt.mp hy;exact zf (h.2.2.1.2 z hz) w4
   ·exact iB
 | move a o c =>
   refine{`s,λx hx=>?_}
   simp only[OL,Pa,or_false] at hx;rcases hx with rfl|rfl|rfl|rfl
   ·exact sY `k
   all_goals exact iB
 | put a o c =>
   refine{`s,λx hx=>?_}
   simp only[OL,Pa,or_false] at hx;rcases hx with rfl|rfl|rfl|rfl
   ·exact sY `k
   all_goals exact iB
def fU {m:aU}(h:bf m):Th 6 6 m.d:=by
 refine{`s,λx hx=>?_}
 simp only[OL,Pa,or_false] at hx;rcases hx with rfl|rfl|rfl
 ·exact iB
 ·exact iB
 ·refine{by have:=h.d6;simpa using this,λy hy=>?_}
  obtain⟨z,hz,rfl⟩:=Pt.mp hy;exact GQ (h.ok z hz) h.w4
def HasM0.q {P:Nat->Option Df}(h:HasM0 P):yF P:=⟨h.is_between,h.is_word,h.is_place,h.is_cost,h.is_tuple_of,h.is_table,h.is_double_table,h.is_turn,h.is_join,h.is_move,h.is_put,h.is_deed,h.is_machine⟩
structure Sub (M M':Mem):Prop where
 len:M.length<=M'.length
 at':∀k,k<M.length->M'[k]?=M[k]?
def Sub.refl {M:Mem}:Sub M M:={OF _,λ_ _=>rfl}
def Sub.trans {M M1 M2:Mem}(a:Sub M M1)(b:Sub M1 M2):Sub M M2:={OI a.len b.len,λk hk=>(b.at' k (OY hk a.len)).trans (a.at' k hk)}
def Sub.app {M X:Mem}:Sub M (M++X):={`s,λk hk=>Pd hk}
def Sub.get {k:Nat}{M M':Mem}{ds:List D}(h:Sub M M')(e:M[k]?=some ds):M'[k]?=some ds:=by rw[h.at' k (Oy.mp e).1];exact e
def Sub.setq {M M':Mem}{q:Nat}{ds:List D}(h:Sub M M')(hq:M.length<=q):Sub M (M'.set q ds):={by simpa using h.len,λk hk=>by rw[O3 `a];exact h.at' k hk}
def yq {tg:dB}{w:Walk}{ge:GE}{ds:List D}{ρ0:Env}{M:Mem}{acc0:List D}{kl:List D->Mem->Prop}(f:D->D)(hz:acc0.length+ds.length<=sz)(hw:w M=some ds)(hs:∀d∈ds,∃ρ1,cX tg d ρ0=some ρ1/\ge ρ1 M=.ok (f d) M)(hk:kl (acc0++ds.map f) M) :
 ai (dX (dY tg (bR ge) ρ0) w acc0 M) kl:=by
 refine fE (ds:=ds) (λi acc M'=>M'=M/\acc=acc0++(ds.take i).map f) (λi acc M' h=>by rw[h.1];exact hw) {rfl,`s} ?_ ?_
 ·rintro i d acc M' hd ⟨rfl,rfl⟩;obtain⟨ρ1,e1,e2⟩:=hs d (OV hd);have hi:i<ds.length:=(Oy.mp hd).1;simp only[dY,bo,ka,e1,EI];refine{ρ1,rfl,?_};rw[e2];refine{by simp;omega,rfl,?_}
  rw[P9,hd];simp
 ·rintro acc M' ⟨rfl,rfl⟩;simpa using hk
def qU {α β:Type}(f:α->List β)(n:Nat):∀(ds:List α),(∀d∈ds,(f d).length<=n)->(ds.flatMap f).length<=ds.length*n
 |[],_=>`s
 | d :: r, h => by
   have h1:=h d OT;have h2:=qU f n r λd hd=>h d (ON _ hd);simp only[List.flatMap_cons,Pz,List.length_cons,Nat.succ_mul];omega
def yr {t u:dB}{w:Walk}{gw2:GW}{ge:GE}{ds:List D}{ρ0:Env}{M:Mem}{kl:List D->Mem->Prop}(its:D->List D)(f:D->D->D)(n:Nat)(hn:∀d∈ds,(its d).length<=n)(hz:ds.length*n<=sz)(hw:w M=some ds)
 (hs:∀d∈ds,∃ρ1,cX t d ρ0=some ρ1/\∃w2,gw2 ρ1 M=.ok w2 M/\w2 M=some (its d)/\∀e∈its d,∃ρ2,cX u e ρ1=some ρ2/\ge ρ2 M=.ok (f d e) M) (hk:kl (ds.flatMap λd=>(its d).map (f d)) M) :
 ai (dX (dY t (u4 u gw2 (bR ge)) ρ0) w [] M) kl:=by
 refine fE (ds:=ds) (λi acc M'=>M'=M/\acc=(ds.take i).flatMap λd=>(its d).map (f d)) (λi acc M' h=>by rw[h.1];exact hw) {rfl,`s} ?_ ?_
 ·rintro i d acc M' hd ⟨rfl,rfl⟩;obtain⟨ρ1,e1,w2,e2,e3,e4⟩:=hs d (OV hd);have hi:i<ds.length:=(Oy.mp hd).1;simp only[dY,bo,ka,e1,u4];refine{ρ1,rfl,?_};rw[e2];show ai (dX (dY u (bR ge) ρ1) w2 _ M') _;have e5:(ds.take (i+1)).flatMap (λd=>(its d).map (f d))=(ds.take i).flatMap (λd=>(its d).map (f d))++(its d).map (f d):=by
   rw[P9,hd];simp
  have l1:=qU (λd=>(its d).map (f d)) n (ds.take (i+1)) (λd hd=>by simpa using hn d (Pw hd))
  rw[e5] at l1;simp only[Pz,OM,PU] at l1;refine yq (f d) ?_ e3 e4 ⟨rfl,e5.symm⟩;have:(min (i+1) ds.length)*n<=ds.length*n:=Nat.mul_le_mul_right _ (Nat.min_le_right _ _);omega
 ·rintro acc M' ⟨rfl,rfl⟩;simpa using hk
noncomputable def yn (w:Nat)(l:List (List Nat)):List (List Nat):=l.flatMap λs=>(List.range w).map λx=>s++[x]
noncomputable def fh (w:Nat):Nat->List (List Nat)
 |0=>[[]]
 |p+1=>yn w (fh w p)
def cz (m:aU):List (List Nat):=fh m.words m.places
noncomputable def gZ (m:aU)(s:List Nat):Prop:=s.length=m.places/\∀x∈s,x<m.words
def vt {w p:Nat}:∀s∈fh w p,s.length=p/\∀x∈s,x<w:=by
 induction p with
 |zero=>intro s hs;simp[fh] at hs;subst hs;simp
 | succ p ih =>
   intro s hs;simp only[fh,yn,List.mem_flatMap,List.mem_map,List.mem_range] at hs;obtain⟨t,ht,x,hx,rfl⟩:=hs;obtain⟨h1,h2⟩:=ih t ht;refine{by simp[h1],λy hy=>?_}
   rcases Pe.mp hy with z|z
   ·exact h2 y z
   ·simp at z;omega
def wY {m:aU}:∀s∈cz m,gZ m s:=vt
def kQ {w:Nat}(hw:w<=4):∀p≤2,(fh w p).length<=4^p
 |0,_=>by simp[fh]
 | p + 1, hp => by
   have:=kQ hw p `a
   have l:=qU (λs:List Nat=>(List.range w).map λx=>s++[x]) 4 (fh w p) (λd hd=>by simpa using hw)
   simp only[fh,yn]
   calc _<=(fh w p).length*4:=l
    _<=4^p*4:=Nat.mul_le_mul_right _ this
    _=4^(p+1):=by rw[Nat.pow_succ]
def vq {m:aU}(hm:bf m):(cz m).length<=16:=by
 have h:=kQ hm.w4 m.places hm.p2;have h1:=hm.p1;have h2:=hm.p2;have:m.places=1\/m.places=2:=`a
 rcases this with e|e<;>rw[e] at h<;>unfold cz<;>rw[e]<;>omega
noncomputable def eK:a8->List Nat->Nat
 |.turn a t _,s=>t.getD (s.getD a 0) 0
 |.join a o t _,s=>(t.getD (s.getD a 0) []).getD (s.getD o 0) 0
 |.move _ o _,s=>s.getD o 0
 |.put _ x _,_=>x
noncomputable def a8.at':a8->Nat
 |.turn a _ _=>a
 |.join a _ _ _=>a
 |.move a _ _=>a
 |.put a _ _=>a
noncomputable def fy (d:a8)(s:List Nat):List Nat:=s.take d.at'++[eK d s]++s.drop (d.at'+1)
def getD_mem {α:Type}{l:List α}{i:Nat}{d:α}(h:i<l.length):l.getD i d∈l:=by
 rw[PQ,OW h];exact Px h
def pR {m:aU}{d:a8}{s:List Nat}(hd:cj m.words m.places d)(hs:gZ m s):eK d s<m.words:=by
 obtain⟨hl,hx⟩:=hs;cases d with
 | turn a t c =>
   obtain⟨h1,h2,h3⟩:=hd;have:=hx _ (getD_mem (d:=0) (show a<s.length by omega))
   exact h2.2 _ (getD_mem (by rw[h2.1];exact this))
 | join a o t c =>
   obtain⟨h1,h2,h3,h4⟩:=hd;have a1:=hx _ (getD_mem (d:=0) (show a<s.length by omega))
   have a2:=hx _ (getD_mem (d:=0) (show o<s.length by omega))
   have a3:=h3.2 _ (getD_mem (d:=[]) (show s.getD a 0<t.length by rw[h3.1];exact a1))
   exact a3.2 _ (getD_mem (by rw[a3.1];exact a2))
 |move a o c=>exact hx _ (getD_mem (by obtain⟨h1,h2,h3⟩:=hd;omega))
 |put a x c=>exact hd.2.1
def tu {w p:Nat}{d:a8}(hd:cj w p d):d.at'<p:=by cases d<;>exact hd.1
def AL {m:aU}{d:a8}{s:List Nat}(hd:cj m.words m.places d)(hs:gZ m s):gZ m (fy d s):=by
 have h1:=tu hd;have h2:=pR hd hs;obtain⟨hl,hx⟩:=hs;refine{by simp[fy];omega,λx hm=>?_}
 simp only[fy,Pe,List.mem_singleton] at hm;rcases hm with(z|z)|z
 ·exact hx x (Pw z)
 ·omega
 ·exact hx x (Ql z)
noncomputable def eI (m:aU)(r:List Nat):Prop:=r.length<=40/\∀i∈r,i<m.deeds.length
def iO (m:aU)(i:Nat):a8:=m.deeds.getD i (.put 0 0 1)
noncomputable def cu (m:aU):List Nat->List Nat->List Nat
 |[],s=>s
 |i::r,s=>cu m r (fy (iO m i) s)
noncomputable def fv (m:aU):List Nat->List Nat->List (List Nat)
 |[],s=>[s]
 |i::r,s=>s::fv m r (fy (iO m i) s)
def lQ {m:aU}(hm:bf m){i:Nat}(hi:i<m.deeds.length):cj m.words m.places (iO m i):=hm.ok _ (getD_mem hi)
def qW {m:aU}(hm:bf m):∀{r:List Nat}{s:List Nat},(∀i∈r,i<m.deeds.length)->gZ m s->gZ m (cu m r s)
 |[],s,_,h=>h
 |i::r,s,hr,h=>qW (r:=r) hm (λj hj=>hr j (ON _ hj)) (AL (lQ hm (hr i OT)) h)
def u6 {m:aU}:∀(a b s:List Nat),cu m (a++b) s=cu m b (cu m a s)
 |[],b,s=>rfl
 |i::a,b,s=>u6 a b _
def rQ {m:aU}:∀(r:List Nat) (i:Nat) (s:List Nat),fv m (r++[i]) s=fv m r s++[fy (iO m i) (cu m r s)]
 |[],i,s=>rfl
 |j::r,i,s=>by simp[fv,cu,rQ r i]
def oA {m:aU}:∀(r s:List Nat),(fv m r s).length=r.length+1
 |[],s=>rfl
 |i::r,s=>by simp[fv,oA r]
def rR {m:aU}:∀(r s:List Nat),(fv m r s)[r.length]?=some (cu m r s)
 |[],s=>rfl
 |i::r,s=>by simp[fv,cu,rR r]
def n5 {m:aU}(r s:List Nat):((bw (fv m r s).length (-1)).bind λj=>Option.map aP (fv m r s)[j]?)=some (aP (cu m r s)):=by
 rw[oA,Gk `a]
 show Option.map aP (fv m r s)[r.length+1-1]?=_;rw[Nat.add_sub_cancel,rR];rfl
def BC {s:List Nat}{i:Nat}(hi:i<s.length):(bw (s.map nD).length (i:Int)).bind (λj=>(s.map nD)[j]?)=some (nD (s.getD i 0)):=by
 rw[eD (by simpa using hi)]
 simp[PQ,hi]
def bF (r:List Nat):D:=.lst (r.map nD)
def Cs {m:aU}{i:Nat}(hi:i<m.deeds.length):((bw (m.deeds.map a8.d).length (i:Int)).bind λj=>(m.deeds.map a8.d)[j]?)=some (iO m i).d:=by
 rw[eD (by simpa using hi)]
 simp[iO,PQ,hi]
def Ju {m:aU}{M:Mem}:bZ m.d (.int 2) M=some (.tup (m.deeds.map a8.d)):=rfl
def uZ {m:aU}{M:Mem}{i:Nat}(hi:i<m.deeds.length):bZ (.tup (m.deeds.map a8.d)) (nD i) M=some (iO m i).d:=Cs hi
def AB {d:a8}{M:Mem}:bZ d.d (.int (-1)) M=some (nD d.cost):=by cases d<;>rfl
def iD {s:List Nat}{M:Mem}{i:Nat}(hi:i<s.length):bZ (aP s) (nD i) M=some (nD (s.getD i 0)):=BC hi
def AA {t:List (List Nat)}{M:Mem}{i:Nat}(hi:i<t.length):bZ (.tup (t.map aP)) (nD i) M=some (aP (t.getD i [])):=by
 show(bw (t.map aP).length (i:Int)).bind (λj=>(t.map aP)[j]?)=_;rw[eD (by simpa using hi)]
 simp[PQ,hi]
noncomputable def d4 (M:Mem)(x:D)(r:List Nat):Prop:=x=.lst (r.map nD)\/∃q,x=.cell q/\M[q]?=some (r.map nD)
def d4.l {M:Mem}{r:List Nat}:d4 M (.lst (r.map nD)) r:=.inl rfl
def d4.sub {M M':Mem}{x:D}{r:List Nat}(h:d4 M x r)(s:Sub M M'):d4 M' x r:=h.elim .inl λ⟨q,e,g⟩=>.inr {q,e,s.get g}
def d4.seq {M:Mem}{x:D}{r:List Nat}(h:d4 M x r):cm M x=some (r.map nD):=by
 rcases h with rfl|⟨q,rfl,e⟩
 ·rfl
 ·exact e
def d4.is {M:Mem}{x:D}{r:List Nat}(h:d4 M x r):dO x=true/\fc x=true/\bI .list x=some true:=by
 rcases h with rfl|⟨q,rfl,e⟩<;>exact⟨rfl,rfl,rfl⟩
def d4.len {M:Mem}{x:D}{r:List Nat}{k:D->Mem->Prop}(h:d4 M x r):ai (eY .len [x] M) k↔k (.int r.length) M:=by
 rcases h with rfl|⟨q,rfl,e⟩
 ·show k (.int (r.map nD).length) M↔_;simp
 ·show ai (match M[q]? with|some xs=>_|none=>_) k↔_
  rw[e];simp
section
variable{P:Nat->Option Df}(h:HasM0 P){M:Mem}
include h
theorem t9 (n:Nat){m:aU}(hm:bf m):ak P (n+8) 13 [m.d] M=.ok .non M:=by
 refine av (aA h.need_machine rfl ?_);simp[dG,oq h.q n (fU hm) `d,fC hm]
theorem v7 (h15:P 15=some {1,6,fA})(n:Nat){m:aU}(hm:bf m):ak P (n+9) 15 [m.d] M=.ok (.lst ((cz m).map aP)) M:=by
 refine av (aA h15 rfl ?_);have w4:=hm.w4;have p2:=hm.p2;simp[fA,t9 h n hm];simp[aU.d,eP];refine{`d,`a,?_}
 refine cy (ds:=(List.range m.places).map λ(k:Nat)=>D.int (k:Int)) (λi Z M'=>M'=M/\∃a,Z=[some m.d,some (nD m.words),some (nD m.places),some (.tup (m.deeds.map a8.d)),some (.lst ((fh m.words i).map aP)),a]) (λ_ _ _ _=>rfl) {rfl,none,by simp[aU.d,fh,aP]} ?_ ?_
 ·rintro i d Z M' hd ⟨rfl,a,rfl⟩;have hi:i<m.places:=by
   have:=(Oy.mp hd).1;simpa using this
  refine{_,rfl,?_};simp[dO];refine yr (ds:=(fh m.words i).map aP) (λ_=>(List.range m.words).map λ(k:Nat)=>D.int (k:Int)) (λd e=>match d,e with|.tup x,e=>.tup (x++[e])|_,_=>.non) 4 (by simpa using λ_ _=>w4) ?_ rfl ?_ ?_
  ·have:=kQ w4 i `a
   have:(4:Nat)^i<=4^2:=Nat.pow_le_pow_right `d `a
   simp only[OM];exact ay `a
  ·intro d hd;obtain⟨s,hs,rfl⟩:=Pt.mp hd;have{l1,_}:=vt s hs;refine{_,rfl,(λ_=>some ((List.range m.words).map λ(k:Nat)=>D.int (k:Int))),aM ?_,rfl,λe he=>{_,rfl,av ?_}}
   ·simp;omega
   ·simp[aP,sz];omega
  ·have e0:((fh m.words i).map aP).flatMap (λd=>((List.range m.words).map λ(k:Nat)=>D.int (k:Int)).map (λe=>match d,e with|.tup x,e=>D.tup (x++[e])|_,_=>.non))=(fh m.words (i+1)).map aP:=by
    simp only[fh,yn,List.flatMap_map,List.map_flatMap,List.map_map]
    congr 1
    funext s
    simp[aP,Function.comp_def]
   rw[e0];refine{?_,rfl,rfl};have:=kQ w4 (i+1) `a
   have:(4:Nat)^(i+1)<=4^2:=Nat.pow_le_pow_right `d `a
   simp only[OM];exact ay `a
 ·rintro Z M' ⟨rfl,a,rfl⟩;simp[cz]
theorem Fm (n:Nat){m:aU}{i:Nat}(hi:i<m.deeds.length):ak P (n+2) 16 [m.d,nD i] M=.ok (.bl true) M:=by
 refine av (aA h.is_deed_number rfl ?_);simp[fO,aU.d,bw,xr h];omega
theorem xp (n:Nat){m:aU}{x:D}{r:List Nat}(hx:d4 M x r)(hr:∀i∈r,i<m.deeds.length):ak P (n+3) 17 [m.d,x] M=.ok .non M:=by
 refine av (aA h.need_numbers rfl ?_);obtain⟨i1,i2,i3⟩:=hx.is;simp[cD,i1,i2,i3];refine cy (ds:=b8 0 (r.map nD)) (λi Z M'=>M'=M/\∃a b,Z=[some m.d,some x,a,b]) (λ_ _ _ e=>by rw[e.1,hx.seq];rfl) ⟨rfl,none,none,rfl⟩ ?_ ?_
 ·rintro i d Z M' hd ⟨rfl,a,b,rfl⟩;rw[cU] at hd;rw[Ph] at hd;cases e:r[i]? with
  |none=>rw[e] at hd;cases hd
  | some x =>
    rw[e] at hd;simp at hd;subst hd;refine{_,rfl,?_};simp[Fm h n (hr x (OV e))]
 ·rintro Z M' ⟨rfl,a,b,rfl⟩;simp
theorem rO (n:Nat){m:aU}{x:D}{r:List Nat}(hx:d4 M x r)(hm:bf m)(hr:eI m r):ak P (n+9) 18 [m.d,x] M=.ok .non M:=by
 have e:=xp h (n+5) (m:=m) hx hr.2;refine av (aA h.need_row rfl ?_);simp[d3,t9 h n hm,e];rw[hx.len];have:=hr.1;simp;omega
theorem Hz (n:Nat){m:aU}{r:List Nat}(hm:bf m)(hr:eI m r):ak P (n+9) 18 [m.d,bF r] M=.ok .non M:=rO h n .l hm hr
end
section
variable{P:Nat->Option Df}(h:HasM P){M:Mem}
include h
theorem zp (n:Nat){m:aU}{a c:Nat}{t s:List Nat}(hd:cj m.words m.places (.turn a t c))(hs:gZ m s):ak P (n+1) 20 [(a8.turn a t c).d,aP s] M=.ok (nD (eK (.turn a t c) s)) M:=by
 obtain⟨h1,h2,h3⟩:=hd;have a1:a<s.length:=by rw[hs.1];exact h1
 have a2:s.getD a 0<t.length:=by rw[h2.1];exact hs.2 _ (getD_mem a1)
 refine av (aA h.turned rfl ?_);simp[-iV,-List.getD_eq_getElem?_getD,oY,a8.d,eP,iD a1,iD a2,eK]
theorem zw (n:Nat){m:aU}{a o c:Nat}{t:List (List Nat)}{s:List Nat}(hd:cj m.words m.places (.join a o t c))(hs:gZ m s):ak P (n+1) 21 [(a8.join a o t c).d,aP s] M=.ok (nD (eK (.join a o t c) s)) M:=by
 obtain⟨h1,h2,h3,h4⟩:=hd;have a1:a<s.length:=by rw[hs.1];exact h1
 have a2:o<s.length:=by rw[hs.1];exact h2
 have a3:s.getD a 0<t.length:=by rw[h3.1];exact hs.2 _ (getD_mem a1)
 have a4:s.getD o 0<(t.getD (s.getD a 0) []).length:=by rw[(h3.2 _ (getD_mem a3)).1];exact hs.2 _ (getD_mem a2)
 refine av (aA h.joined rfl ?_);simp[-iV,-List.getD_eq_getElem?_getD,pd,a8.d,eP,iD a1,iD a2,AA a3,iD a4,eK]
theorem BI (n:Nat){m:aU}{a o c:Nat}{s:List Nat}(hd:cj m.words m.places (.move a o c))(hs:gZ m s):ak P (n+1) 22 [(a8.move a o c).d,aP s] M=.ok (nD (eK (.move a o c) s)) M:=by
 obtain⟨h1,h2,h3⟩:=hd;have a2:o<s.length:=by rw[hs.1];exact h2
 refine av (aA h.moved rfl ?_);simp[-iV,-List.getD_eq_getElem?_getD,rg,a8.d,eP,iD a2,eK]
theorem BH (n:Nat){a x c:Nat}{s:List Nat}:ak P (n+1) 23 [(a8.put a x c).d,aP s] M=.ok (nD (eK (.put a x c) s)) M:=by
 refine av (aA h.put_in rfl ?_);simp[oZ,a8.d,eP,eK]
end
def NC:du.lookup (Str.ofString "turn")=some 20:=`k
def NB:du.lookup (Str.ofString "join")=some 21:=`k
def NA:du.lookup (Str.ofString "move")=some 22:=`k
def Nz:du.lookup (Str.ofString "put")=some 23:=`k
def HF {s:List Nat}{M:Mem}{k:D->Mem->Prop}{a:Nat}(ha:a<=s.length):ai (fq false (aP s) .non (.int a) M) k↔k (aP (s.take a)) M:=by
 simp only[fq,aP,aS,cut];rw[if_neg `a]
 simp;rw[Nat.min_eq_left (by simpa using ha)]
def Fp {s:List Nat}{M:Mem}{k:D->Mem->Prop}{a:Nat}(ha:a<=s.length):ai (fq false (aP s) (.int a) .non M) k↔k (aP (s.drop a)) M:=by
 simp only[fq,aP,aS,cut];rw[if_neg `a]
 simp;rw[Nat.min_eq_left (by simpa using ha),Qa `s]
section
variable{P:Nat->Option Df}(h:HasM P){M:Mem}
include h
theorem Fj (n:Nat){m:aU}{d:a8}{s:List Nat}(hm:bf m)(hd:cj m.words m.places d)(hs:gZ m s):ak P (n+2) 24 [d.d,aP s] M=.ok (aP (fy d s)) M:=by
 have a0:=tu hd;have l0:=hs.1;have p2:=hm.p2;have key:∀f,ak P (n+1) f [d.d,aP s] M=.ok (nD (eK d s)) M->bZ d.d (.int 1) M=some (nD d.at')->(∀k:D->Mem->Prop,(∃y,bZ d.d (.int 0) M=some (.str y)/\du.lookup y=some f))->ak P (n+2) 24 [d.d,aP s] M=.ok (aP (fy d s)) M:=λf e1 e2 e3=>by
  obtain⟨y,e3,e4⟩:=e3 λ_ _=>True;refine av (aA h.done rfl ?_);simp only[vv,aF,fu,JV,fK,aT,cQ,dI,cb,dv,mi,gL,aY,bh,Gy];simp[-iV,e1,e2,e3,e4,cH];rw[HF `a,e1]
  have e5:(d.at':Int)+1=((d.at'+1:Nat):Int):=`a
  rw[e5];simp only[cx,aP,lJ];refine{`d,?_,?_}
  ·simp;exact ay `a
  ·rw[show D.tup (s.map nD)=aP s from rfl,Fp `a]
   simp only[aP,lJ];refine{?_,?_,trivial}
   ·simp;exact ay `a
   ·simp[fy]
 cases d with
 |turn a t c=>exact key 20 (zp h n hd hs) rfl λ_=>{_,rfl,NC}
 |join a o t c=>exact key 21 (zw h n hd hs) rfl λ_=>{_,rfl,NB}
 |move a o c=>exact key 22 (BI h n hd hs) rfl λ_=>{_,rfl,NA}
 |put a x c=>exact key 23 (BH h n) rfl λ_=>{_,rfl,Nz}
theorem vH (n:Nat){m:aU}{x:D}{r s:List Nat}(hx:d4 M x r)(hm:bf m)(hrl:r.length<=100000)(hr:∀i∈r,i<m.deeds.length)(hs:gZ m s):ak P (n+3) 25 [m.d,x,aP s] M=.ok (.cell M.length) (M++[(fv m r s).map aP]):=by
 refine av (aA h.all_standing rfl ?_);simp[i6,hx.is];refine{`d,?_}
 refine cy (ds:=r.map nD) (λi Z M'=>M'=M++[(fv m (r.take i) s).map aP]/\∃a,Z=[some m.d,some x,some (aP s),some (.cell M.length),a]) (λ_ _ _ e=>by rw[e.1];exact(hx.sub Sub.app).seq) {by simp[fv],none,rfl} ?_ ?_
 ·rintro i d Z M' hd ⟨rfl,a,rfl⟩;rw[Ph] at hd;cases e:r[i]? with
  |none=>rw[e] at hd;cases hd
  | some x =>
    rw[e] at hd;simp at hd;subst hd;have hx:=hr x (OV e);have hi:i<r.length:=(Oy.mp e).1;refine{_,rfl,?_};have hse:gZ m (cu m (r.take i) s):=qW hm (λj hj=>hr j (Pw hj)) hs;have hl:=oA (m:=m) (r.take i) s;have hl2:(r.take i).length=i:=by simp;omega
    simp[-iV,Ju,uZ hx,n5,Fj h n hm (lQ hm hx) hse];refine{?_,?_}
    ·rw[hl,hl2];exact QI (show i+1<=100001 by omega) `d
    ·rw[P9,e];simp[rQ]
 ·rintro Z M' ⟨rfl,a,rfl⟩;simp
noncomputable def oX (m:aU)(r:List Nat):D:=.tup ((cz m).map λs=>aP (cu m r s))
theorem ua (h15:P 15=some {1,6,fA})(h46:P 46=some {2,2,jx})(n:Nat){m:aU}{x:D}{r:List Nat}(hx:d4 M x r)(hm:bf m)(hrl:r.length<=100000)(hr:∀i∈r,i<m.deeds.length):ak P (n+10) 46 [m.d,x] M=.ok (oX m r) (M++(cz m).map λs=>(fv m r s).map aP):=by
 refine av (aA h46 rfl ?_);simp[jx,v7 h.toHasM0 h15 n hm];refine{rfl,?_};have bl:=vq hm;refine comp_map (ds:=(cz m).map aP) (λi acc M'=>acc=((cz m).take i).map (λs=>aP (cu m r s))/\M'=M++((cz m).take i).map λs=>(fv m r s).map aP) (ay `o) (λ_ _ _ _=>rfl) `s ?_ ?_
 ·rintro i d acc M' hd _ ⟨rfl,eM⟩;rw[Ph] at hd;cases e:(cz m)[i]? with
  |none=>rw[e] at hd;cases hd
  | some s =>
    rw[e] at hd;have hd:aP s=d:=OG hd;subst hd;have hs:=wY s (OV e);refine{_,rfl,?_};have st:=vH h (n+6) (M:=M') (by rw[eM];exact hx.sub Sub.app) hm hrl hr hs
    simp[st,n5];rw[eM,P9,P9];simp[e]
 ·rintro acc M' _ ⟨rfl,rfl⟩;simp;exact{ay `a,by simp[oX,Qa]}
theorem rP (h15:P 15=some {1,6,fA})(h27:P 27=some {2,2,jj})(h46:P 46=some {2,2,jx})(n:Nat){m:aU}{x:D}{r:List Nat}(hx:d4 M x r)(hm:bf m)(hr:eI m r):ak P (n+11) 27 [m.d,x] M=.ok (oX m r) (M++(cz m).map λs=>(fv m r s).map aP):=by
 refine av (aA h27 rfl ?_);simp[jj,rO h.toHasM0 (n+1) hx hm hr,ua h h15 h46 n hx hm (OI hr.1 `d) hr.2]
end
@[simp] theorem oO {j:Nat}{M:Mem}{k:D->Mem->Prop}:ai (eY .len [.cell j] M) k↔∃ds,M[j]?=some ds/\k (.int ds.length) M:=by
 show ai (match M[j]? with|some xs=>_|none=>_) k↔_
 cases M[j]?<;>simp
structure aJ (M:Mem) (p B:Nat):Prop where
 ex:∃(c:Nat) (cells:List Int) (at_ st:Int),M[p]?=some [.cell c,.int at_,.int st]/\M[c]?=some (cells.map D.int)/\c<p/\0<=at_/\at_<=B/\0<=st
structure a7 (p:Nat) (M M':Mem):Prop where
 len:M.length<=M'.length
 at':∀k,k<M.length->k≠p->M'[k]?=M[k]?
def a7.refl {p:Nat}{M:Mem}:a7 p M M:={OF _,λ_ _ _=>rfl}
def a7.trans {p:Nat}{M M1 M2:Mem}(a:a7 p M M1)(b:a7 p M1 M2):a7 p M M2:={OI a.len b.len,λk hk n=>(b.at' k (OY hk a.len) n).trans (a.at' k hk n)}
def a7.set {p:Nat}{M:Mem}{ds:List D}:a7 p M (M.set p ds):={`s,λk _ n=>O3 (PZ n)}
def a7.app {p:Nat}{M X:Mem}:a7 p M (M++X):={`s,λk hk _=>Pd hk}
def a7.get {p k:Nat}{M M':Mem}{ds:List D}(h:a7 p M M')(e:M[k]?=some ds)(n:k≠p):M'[k]?=some ds:=by rw[h.at' k (Oy.mp e).1 n];exact e
def aJ.lt {M:Mem}{p B:Nat}(h:aJ M p B):p<M.length:=by obtain⟨_,_,_,_,e,_⟩:=h.ex;exact(Oy.mp e).1
def aJ.app {M X:Mem}{p B:Nat}(h:aJ M p B):aJ (M++X) p B:=by
 obtain⟨c,cells,a,st,e1,e2,r⟩:=h.ex;exact{c,cells,a,st,by rw[Pd (Oy.mp e1).1];exact e1,by rw[Pd (Oy.mp e2).1];exact e2,r}
def aJ.mono {M:Mem}{p B B':Nat}(h:aJ M p B)(hb:B<=B'):aJ M p B':=by
 obtain⟨c,cells,a,st,e1,e2,e3,e4,e5,e6⟩:=h.ex;exact{c,cells,a,st,e1,e2,e3,e4,`a,e6}
def aJ.setq {M:Mem}{p q B:Nat}{ds:List D}(h:aJ M p B)(hq:p<q):aJ (M.set q ds) p B:=by
 obtain⟨c,cells,a,st,e1,e2,e3,e4,e5,e6⟩:=h.ex;exact{c,cells,a,st,by rw[O3 `a];exact e1,by rw[O3 `a];exact e2,e3,e4,e5,e6}
def a7.setq {p q:Nat}{M M':Mem}{ds:List D}(h:a7 p M M')(hq:M.length<=q):a7 p M (M'.set q ds):={by simpa using h.len,λk hk n=>by rw[O3 `a];exact h.at' k hk n}
def Ah {a b A B:Int}(h1:0<=a)(h2:a<=A)(h3:0<=b)(h4:b<=B):0<=a*b/\a*b<=A*B:=
 {Int.mul_nonneg h1 h3,Int.mul_le_mul h2 h4 h3 (Int.le_trans h1 h2)}
noncomputable def lB:List Int:=[2147483629,2147483587,2147483579,2147483563,2147483549,2147483543,2147483497,2147483489,2147483477,2147483423,2147483399,2147483353,2147483323]
def gr:List D:=lB.map D.int
def zN:∀q∈lB,0<q/\q<2147483648:=`d
def oF (j:Int)(M:Mem):∃q:Int,bZ (.lst gr) (.int (j % 13)) M=some (.int q)/\0<q/\q<2147483648:=by
 have h1:0<=j % 13:=Qc _ `d
 have h2:j % 13<13:=P5 _ `d
 generalize j % 13=i at h1 h2;obtain⟨k,rfl⟩:=Int.eq_ofNat_of_zero_le h1;have hk:k<lB.length:=Int.ofNat_lt.mp h2;refine{lB[k],?_,zN _ (Px hk)};show(bw gr.length (k:Int)).bind (λj=>gr[j]?)=_;rw[eD (n:=gr.length) hk];show(lB.map D.int)[k]?=_;rw[Ph,OW hk];rfl
section
variable{P:Nat->Option Df}(h:HasP0 P){M:Mem}
include h
omit h in
theorem gY {m:Bool}{a b:GE}{Z:Env}{x y:Int}(ha:a Z M=.ok (.int x) M)(hb:b Z M=.ok (.int y) M):au m .add a b Z M=.ok (.int (x+y)) M:=by
 unfold au;rw[ha];show(b Z M).bind _=_;rw[hb];rfl
omit h in
theorem oN {m:Bool}{a b:GE}{Z:Env}{x y:Int}(ha:a Z M=.ok (.int x) M)(hb:b Z M=.ok (.int y) M)(c:(-(2^64)<x/\x<2^64)\/(-(2^64)<y/\y<2^64)):au m .mul a b Z M=.ok (.int (x*y)) M:=by
 unfold au;rw[ha];show(b Z M).bind _=_;rw[hb];exact if_pos c
omit h in
theorem la {m:Bool}{a b:GE}{Z:Env}{x y:Int}(ha:a Z M=.ok (.int x) M)(hb:b Z M=.ok (.int y) M)(c:0<y):au m .mod a b Z M=.ok (.int (x % y)) M:=by
 unfold au;rw[ha];show(b Z M).bind _=_;rw[hb];exact if_pos c
omit h in
theorem B8 {m:Bool}{a b:GE}{Z:Env}{x y:Int}(ha:a Z M=.ok (.int x) M)(hb:b Z M=.ok (.int y) M)(c:0<=y/\y<=1000000)(d:x.natAbs<2^64):au m .pow a b Z M=.ok (.int (x^y.toNat)) M:=by
 unfold au;rw[ha];show(b Z M).bind _=_;rw[hb];exact if_pos ⟨c.1,c.2,d⟩
omit h in
theorem oG {a:GE}{Z:Env}{i:Nat}{x q:Int}(hi:Z[i]?.getD none=some (.lst gr))(ha:a Z M=.ok (.int x) M)(e:bZ (.lst gr) (.int (x % 13)) M=some (.int q)):aE (ae i) (au false .mod a (gI 13)) Z M=.ok (.int q) M:=by
 unfold aE;rw[aw hi];show(au false .mod a _ Z M).bind _=_;rw[la ha rfl `d];show cK M _=_;rw[e];rfl
theorem zr (n:Nat){x a:Int}(h0:0<=a)(h1:a<=1000000):ai (ak P (n+1) 28 [.int x,.int a] M) λd M'=>M'=M/\∃v:Int,d=.int v/\0<=v:=by
 refine aA h.law_spread rfl ?_;show ai (gM (ak P n) [some (.int x),some (.int a),none,none,none,none] M) _;unfold gM;refine cS (b:=decide ((1000000000000000000:Int)<=x)) rfl (λe=>?_) λe=>?_
 ·exact{rfl,x,rfl,Int.le_trans `d (of_decide_eq_true e)}
 clear e;refine bz (dU rfl) (bz (dU rfl) ?_);show ai (ag _ _ [some (.int x),some (.int a),some (.lst gr),none,none,none] M) _;obtain⟨q1,e1,p1,p2⟩:=oF a M;obtain⟨q2,e2,p3,_⟩:=oF (a+5) M;obtain⟨q3,e3,p5,_⟩:=oF (a+7) M;have sm:∀{z c:Int},0<=z->z<=c->c<2^64->z.natAbs<2^64:=λz0 zc c0=>`a
 have lt:∀{z c:Int},0<=z->z<=c->c<2^64->-(2^64)<z/\z<2^64:=λz0 zc c0=>`a
 have r1:=Qc x (show(1000000007:Int)≠0 by decide)
 have r2:=P5 x (show(0:Int)<1000000007 by decide)
 have r3:=Qc x (show(65537:Int)≠0 by decide)
 have r4:=P5 x (show(0:Int)<65537 by decide)
 obtain⟨m1,m2⟩:=Ah r1 (Int.le_of_lt r2) (show 0<=2*a+69069 by omega) (show 2*a+69069<=2069069 by omega)
 refine bz (dU (la (B8 (gY (gY (oN (la (aw rfl) rfl `d) (gY (oN rfl (aw rfl) (.inl `d)) rfl) (.inl (lt r1 (Int.le_of_lt r2) `d))) (oN (aw rfl) rfl (.inl (lt h0 h1 `d)))) rfl) rfl `d (sm (c:=10000000000000000000) `a `a `d)) (oG rfl (aw rfl) e1) p1)) ?_
 generalize (x % 1000000007*(2*a+69069)+a*40503+977)^(3:Int).toNat=y1;have b1:=Qc y1 (Int.ne_of_gt p1);have b2:=P5 y1 p1;generalize y1 % q1=one at b1 b2;show ai (ag _ _ [some (.int x),some (.int a),some (.lst gr),some (.int one),none,none] M) _;have b3:one<=2147483648:=Int.le_of_lt (Int.lt_trans b2 p2);obtain⟨m3,m4⟩:=Ah b1 b3 (show 0<=a+3 by omega) (show a+3<=1000003 by omega)
 refine bz (dU (la (B8 (gY (gY (oN (aw rfl) (gY (aw rfl) rfl) (.inl (lt b1 b3 `d))) (la (aw rfl) rfl `d)) rfl) rfl `d (sm (c:=10000000000000000000) `a `a `d)) (oG rfl (gY (aw rfl) rfl) e2) p3)) ?_
 generalize (one*(a+3)+x % 65537+5)^(5:Int).toNat=y2;have c1:=Qc y2 (Int.ne_of_gt p3);have c2:=P5 y2 p3;generalize y2 % q2=two at c1 c2;show ai (ag _ _ [some (.int x),some (.int a),some (.lst gr),some (.int one),some (.int two),none] M) _;have r5:=Qc one (show(1009:Int)≠0 by decide)
 have r6:=P5 one (show(0:Int)<1009 by decide)
 refine bz (dU (la (B8 (gY (gY (aw rfl) (la (aw rfl) rfl `d)) (aw rfl)) rfl `d (sm (c:=10000000000) `a `a `d)) (oG rfl (gY (aw rfl) rfl) e3) p5)) ?_
 generalize (two+one % 1009+a)^(3:Int).toNat=y3;have d1:=Qc y3 (Int.ne_of_gt p5);refine b7 (gY (oN (gY (oN (aw rfl) rfl (.inr `d)) (aw rfl)) rfl (.inr `d)) (aw rfl)) {rfl,_,rfl,?_}
 exact Int.add_nonneg (Int.mul_nonneg (Int.add_nonneg (Int.mul_nonneg b1 `d) c1) `d) d1
omit h in
theorem NR:bw 3 2=some 2:=rfl
omit h in
theorem qN {l:List Int}{i:Int}(h0:0<=i)(h1:i<l.length):∃x,((bw l.length i).bind λj=>Option.map D.int l[j]?)=some (.int x):=by
 obtain⟨k,rfl⟩:=Int.eq_ofNat_of_zero_le h0;have hk:k<l.length:=`a
 refine{l[k],?_};rw[eD hk];simp[hk]
noncomputable def lR:GS:=ag (aI (.one 4) (au false .mod (aE (ae 0) (gI 2)) (ae 1))) (ag (fF (ae 0) (gI 2) (au false .fdiv (aE (ae 0) (gI 2)) (ae 1))) (ag (aK (ae 4)) aj))
noncomputable def vQ (c:Call):GS:=ag (fF (ae 0) (gI 1) (au false .add (ae 2) (gI 1))) (ag (fF (ae 0) (gI 2) (aq 28 c (aa (ae 3) (aa (ae 2) ah)))) aj)
omit h in
theorem Lz {m:Bool}{a b:GE}{Z:Env}{x y:Int}(ha:a Z M=.ok (.int x) M)(hb:b Z M=.ok (.int y) M)(c:0<y/\y<1073741824):au m .fdiv a b Z M=.ok (.int (x / y)) M:=by
 unfold au;rw[ha];show(b Z M).bind _=_;rw[hb];exact if_pos c
omit h in
theorem gG {a b:GE}{Z:Env}{x y d:D}(ha:a Z M=.ok x M)(hb:b Z M=.ok y M)(e:bZ x y M=some d):aE a b Z M=.ok d M:=by
 unfold aE;rw[ha];show(b Z M).bind _=_;rw[hb];show cK M _=_;rw[e];rfl
omit h in
theorem JH {p:Nat}{c0 c1 c2:D}(e:M[p]?=some [c0,c1,c2]):bZ (.cell p) (.int 0) M=some c0/\bZ (.cell p) (.int 1) M=some c1/\bZ (.cell p) (.int 2) M=some c2:=by
 refine{?_,?_,?_}<;>(show(M[p]?).bind _=_;rw[e];rfl)
omit h in
theorem uk {a b d:GE}{rest:GS}{Z:Env}{p i:Nat}{n:Int}{z:D}{ds:List D}{M':Mem}{kf:Fl->Mem->Prop}(hd:d Z M=.ok z M')(ha:a Z M'=.ok (.cell p) M')(hb:b Z M'=.ok (.int n) M')(e:M'[p]?=some ds)(hi:bw ds.length n=some i)(h:ai (rest Z (M'.set p (ds.set i z))) kf):ai (ag (fF a b d) rest Z M) kf:=by
 simp only[aF];unfold fF;rw[hd];show ai ((a Z M').bind _) _;rw[ha];show ai ((b Z M').bind _) _;rw[hb];show ai (match M'[p]? with|some ds=>(match bw ds.length n with|some j=>Res.ok (Fl.next Z) (M'.set p (ds.set j z))|none=>.bad)|none=>.bad) _
 rw[e];show ai (match bw ds.length n with|some j=>Res.ok (Fl.next Z) (M'.set p (ds.set j z))|none=>.bad) _
 rw[hi];exact h
omit h in
theorem JI {t:GT}{A B rest:GS}{Z:Env}{b:Bool}{kf:Fl->Mem->Prop}(ht:t Z M=.ok b M)(h1:b=true->ai (A Z M) (gK rest kf))(h2:b=false->ai (B Z M) (gK rest kf)):ai (ag (aQ t A B) rest Z M) kf:=by
 simp only[aF,ig];rw[ht];cases b with
 |true=>exact h1 rfl
 |false=>exact h2 rfl
omit h in
theorem rL {M M1:Mem}{p c many B:Nat}{cells:List Int}{a st:Int}{x y:Option D}(e1:M1[p]?=some [.cell c,.int a,.int st])(e2:M1[c]?=some (cells.map D.int))(lt:c<p)(a0:0<=a)(aB:a<=(B+1:Nat))(s0:0<=st)(k:a7 p M M1)
 (h0:0<many) (h1:many<=10000000):ai (lR [some (.cell p),some (nD many),x,y,none] M1) (iW λd M'=>∃v:Nat,d=nD v/\v<many/\aJ M' p (B+1)/\a7 p M M'):=by
 have hp:p<M1.length:=(Oy.mp e1).1;have b0:(0:Int)<(many:Int):=Int.ofNat_lt.mpr h0;have r1:=Qc st (Int.ne_of_gt b0);have r2:=P5 st b0;unfold lR;refine bz (dU (la (gG (aw rfl) rfl (JH e1).2.2) (aw rfl) b0)) (uk (Lz (gG (aw rfl) rfl (JH e1).2.2) (aw rfl) {b0,`a}) (aw rfl) rfl e1 (i:=2) rfl (b7 (aw rfl) ?_))
 obtain⟨v,hv⟩:=Int.eq_ofNat_of_zero_le r1;refine{v,congrArg D.int hv,`a,{c,cells,a,st / many,Pf hp,?_,lt,a0,aB,Int.ediv_nonneg s0 (Int.le_of_lt b0)},k.trans a7.set}
 rw[O3 (P4 lt)];exact e2
theorem vX (n:Nat){p B many:Nat}(hp:aJ M p B)(hB:B<=1000000)(h0:0<many)(h1:many<=10000000):ai (ak P (n+2) 31 [.cell p,nD many] M) λd M'=>∃v:Nat,d=nD v/\v<many/\aJ M' p (B+1)/\a7 p M M':=by
 obtain⟨c,cells,a,st,e1,e2,lt,a0,aB,s0⟩:=hp.ex;have hpl:p<M.length:=(Oy.mp e1).1;obtain⟨i0,i1,i2⟩:=JH e1;refine aA h.law_take rfl ?_;show ai (ag (aQ _ (ag _ (ag _ (ag _ (vQ (ak P (n+1)))))) _) lR [some (.cell p),some (nD many),none,none,none] M) _;have mid:∀(x:Int),ai (vQ (ak P (n+1)) [some (.cell p),some (nD many),some (.int a),some (.int x),none] M) (gK lR (iW λd M'=>∃v:Nat,d=nD v/\v<many/\aJ M' p (B+1)/\a7 p M M')):=by
  intro x;refine uk (gY (aw rfl) rfl) (aw rfl) rfl e1 (i:=1) rfl ?_;obtain⟨_,_,es,rfl,v,rfl,v0⟩:=kC.mp (zr h n (M:=M.set p [.cell c,.int (a+1),.int st]) (x:=x) (a:=a) a0 `a)
  refine uk ((bB (az (aw rfl) (az (aw rfl) rfl))).trans es) (aw rfl) rfl (Pf hpl) (i:=2) rfl ?_;have ne:=P4 lt;exact rL (c:=c) (cells:=cells) (a:=a+1) (st:=v) (Pf (by rw[List.length_set];exact hpl)) (by rw[O3 ne,O3 ne];exact e2) lt `a `a v0 (a7.set.trans a7.set) h0 h1
 have len:aX .len (aa (aE (ae 0) (gI 0)) ah) [some (.cell p),some (nD many),some (.int a),some (.int 0),none] M=.ok (.int (cells.length:Nat)) M:=by
  refine av ?_;simp only[dC];rw[az (gG (aw rfl) rfl i0) rfl,cx];exact oO.mpr {_,e2,by rw[OM],rfl}
 refine cS (b:=decide (st<(many:Int))) (eL (av ?_)) (λc1=>?_) λc1=>?_
 ·simp only[eU];rw[gG (aw rfl) rfl i2,cx,aw (x:=nD many) rfl,cx];exact{_,rfl,rfl,rfl}
 ·refine bz (dU (gG (aw rfl) rfl i1)) (bz (dU rfl) ?_);show ai (ag _ _ [some (.cell p),some (nD many),some (.int a),some (.int 0),none] M) _;have ixx:∀{i:Int}{x:D},((bw cells.length i).bind λj=>Option.map D.int cells[j]?)=some x->bZ (.cell c) (.int i) M=some x:=λ{i x} ex=>by
   show(M[c]?).bind _=_;rw[e2];show((bw (cells.map D.int).length i).bind λj=>(cells.map D.int)[j]?)=_;simp only[OM,Ph];exact ex
  refine JI (b:=decide (a<(cells.length:Int))) (eL (av ?_)) (λc2=>?_) λ_=>?_
  ·simp only[eU];rw[aw (x:=.int a) rfl,cx,len,cx];exact{_,rfl,rfl,rfl}
  ·obtain⟨x,ex⟩:=qN a0 (of_decide_eq_true c2);exact bz (dU (gG (gG (aw rfl) rfl i0) (aw rfl) (ixx ex))) (mid x)
  ·refine cS (b:=decide ((0:Int)<(cells.length:Int))) (eL (av ?_)) (λc3=>?_) λ_=>mid 0
   ·simp only[eU,cQ];rw[len,cx];exact{_,rfl,rfl,rfl}
   ·have c4:=of_decide_eq_true c3;obtain⟨x,ex⟩:=qN (Qc (a*5+3) (Int.ne_of_gt c4)) (P5 _ c4);exact bz (dU (la (gG (gG (aw rfl) rfl i0) (la (gY (oN (aw rfl) rfl (.inr `d)) rfl) len c4) (ixx ex)) (gY (x:=100000000000000000) rfl (aw rfl)) (Int.lt_of_lt_of_le `d (Int.le_add_of_nonneg_right a0)))) (mid _)
 ·exact rL e1 e2 lt a0 `a s0 .refl h0 h1
end
noncomputable def a8.withC:a8->Nat->a8
 |.turn a t _,c=>.turn a t c
 |.join a o t _,c=>.join a o t c
 |.move a o _,c=>.move a o c
 |.put a x _,c=>.put a x c
def Bd {w p c:Nat}{d:a8}(h:cj w p d)(hc:fT c):cj w p (d.withC c):=by
 cases d with
 |turn=>exact⟨h.1,h.2.1,hc⟩
 |join=>exact⟨h.1,h.2.1,h.2.2.1,hc⟩
 |move=>exact⟨h.1,h.2.1,hc⟩
 |put=>exact⟨h.1,h.2.1,hc⟩
def GX {w p:Nat}{d:a8}(h:cj w p d):fT d.cost:=by
 cases d with
 |turn=>exact h.2.2
 |join=>exact h.2.2.2
 |move=>exact h.2.2
 |put=>exact h.2.2
def C4 {d:a8}{c:Nat}{M:Mem}{k:D->Mem->Prop}(hk:k (d.withC c).d M):ai (fq false d.d .non (.int (-1)) M) λx M=>ai (fY false .add x (.tup [nD c]) M) k:=by
 cases d<;>(simp[a8.d,fq,aS,cut];exact{`d,hk})
def BF (n:Nat)(d:a8):aC (n+3) d.d=true:=by
 have tp:∀(n:Nat) (l:List Nat),(l.map nD).all (aC n)=true:=λn l=>by
  rw[OJ];intro x hx;obtain⟨i,_,rfl⟩:=Pt.mp hx;cases n<;>rfl
 cases d with
 |turn a t c=>simp[a8.d,aC,aP,nD];decide +kernel
 |join a o t c=>simp[a8.d,aC,nD,aP];decide +kernel
 |move a o c=>simp[a8.d,aC,nD];decide +kernel
 |put a x c=>simp[a8.d,aC,nD];decide +kernel
def ne_nil {M:Mem}{q:Nat}{ds:List a8}(e:M[q]?=some (ds.map a8.d)):br .ne (.cell q) (.lst []) M=some (!ds.isEmpty):=by
 have hp:(ds.map a8.d).all (aC 63)=true:=by
  rw[OJ];intro x hx;obtain⟨d,_,rfl⟩:=Pt.mp hx;exact BF 60 d
 have hv:view M (.cell q)=.lst (ds.map a8.d):=by simp[view,e]
 have h1:aC 64 (.lst (ds.map a8.d))=true:=hp;refine iY (by rw[hv];exact h1) rfl ?_
 rw[hv];cases ds<;>rfl
@[simp] theorem Jo {m:Bool}{x:List D}{j:Int}{M:Mem}{k:D->Mem->Prop}:ai (fY m .mul (.tup x) (.int j) M) k↔(x.length*j.toNat<=sz/\-(2^63)<=j/\j<2^63)/\k (.tup (List.replicate j.toNat x).flatten) M:=lC
@[simp] theorem Jp {m:Bool}{x:List D}{j:Int}{M:Mem}{k:D->Mem->Prop}:ai (fY m .mul (.lst x) (.int j) M) k↔(x.length*j.toNat<=sz/\-(2^63)<=j/\j<2^63)/\ai (bE m (List.replicate j.toNat x).flatten M) k:=lC
def pE {xs:List D}{a:Nat}{M:Mem}{k:D->Mem->Prop}:ai (fq false (.lst xs) .non (.int a) M) k↔(xs.take a).length<=sz/\k (.lst (xs.take a)) M:=by
 have e:cut xs 0 (min a xs.length)=xs.take a:=by
  unfold cut;rcases Nat.le_total a xs.length with h|h
  ·rw[Nat.min_eq_left h];simp
  ·rw[Nat.min_eq_right h];simp[Qa h]
 show ai (match aS xs.length 0 D.non,aS xs.length xs.length (.int a) with|some l,some h=>bE false (cut xs l h) M|_,_=>.bad) k↔_
 have e2:aS xs.length xs.length (.int a)=some (min a xs.length):=by
  show some _=_;rw[if_neg `a];simp
 rw[e2];show ai (bE false (cut xs 0 (min a xs.length)) M) k↔_;rw[e,bx]
def BU {xs:List D}{a:Nat}{M:Mem}{k:D->Mem->Prop}:ai (fq false (.lst xs) (.int a) .non M) k↔(xs.drop a).length<=sz/\k (.lst (xs.drop a)) M:=by
 have e:cut xs (min a xs.length) xs.length=xs.drop a:=by
  unfold cut;rcases Nat.le_total a xs.length with h|h
  ·rw[Nat.min_eq_left h,Qa `s]
  ·rw[Nat.min_eq_right h];simp[List.drop_eq_nil_of_le h]
 show ai (match aS xs.length 0 (.int a),aS xs.length xs.length D.non with|some l,some h=>bE false (cut xs l h) M|_,_=>.bad) k↔_
 have e2:aS xs.length 0 (.int a)=some (min a xs.length):=by
  show some _=_;rw[if_neg `a];simp
 rw[e2];show ai (bE false (cut xs (min a xs.length) xs.length) M) k↔_;rw[e,bx]
def vf {w:Nat}{ge:GE}{Z:Env}{M:Mem}{kl:List D->Mem->Prop}(f:Nat->Nat)(hw:w<=100)(hf:∀k,k<w->ge (some (.int (k:Int))::Z) M=.ok (nD (f k)) M)(hk:kl (((List.range w).map f).map nD) M) :
 ai (dX (dY (.one 0) (bR ge) (none::Z)) (λ_=>some ((List.range w).map λ(k:Nat)=>D.int (k:Int))) [] M) kl:=by
 refine jv (ds:=(List.range w).map λ(k:Nat)=>D.int (k:Int)) (λd=>match d with|.int i=>nD (f i.toNat)|_=>.non) (ay `o) rfl (λd hd=>?_) ?_
 ·obtain⟨k,hk,rfl⟩:=Pt.mp hd;exact{_,rfl,hf k (Qq.mp hk)}
 ·simpa[Function.comp_def] using hk
def vU {w:Nat}{f:Nat->Nat}(hf:∀k,k<w->f k<w):gR w ((List.range w).map f):={`s,λx hx=>by
 obtain⟨k,hk,rfl⟩:=Pt.mp hx;exact hf k (Qq.mp hk)}
section
variable{P:Nat->Option Df}(h:HasP0 P){M:Mem}
include h
theorem Fn (n:Nat){p B:Nat}(hp:aJ M p B):ai (ak P (n+1) 30 [.cell p] M) λd M'=>d=.cell p/\aJ M' p B/\a7 p M M':=by
 obtain⟨c,cells,a,st,e1,e2,lt,a0,aB,s0⟩:=hp.ex;have ne:c≠p:=PK lt;have hpl:p<M.length:=(Oy.mp e1).1;refine aA h.law_anew rfl ?_;simp[lh,e1,NR];refine{{c,cells,a,0,by simp[hpl],?_,lt,a0,aB,`a},a7.set}
 rw[O3 (PZ ne)];exact e2
theorem tk (n:Nat){p B many:Nat}{k:D->Mem->Prop}(hp:aJ M p B)(hB:B<=1000000)(h0:0<many)(h1:many<=10000000)(hk:∀(v:Nat) (M':Mem),v<many->aJ M' p (B+1)->a7 p M M'->k (nD v) M'):ai (ak P (n+2) 31 [.cell p,nD many] M) k:=
 aH (vX h n hp hB h0 h1) λd M' ⟨v,e,hv,hp',hk'⟩=>by subst e;exact hk v M' hv hp' hk'
end
def bd {B c k m:Nat}(h:B<=c)(e:c+k<=m):B+k<=m:=OI (Nat.add_le_add_right h k) e
def xX {B k m:Nat}(e:k<=m):B+k<=B+m:=Nat.add_le_add_left e B
def nI {xs:List D}{v:Nat}{M:Mem}(h:v<xs.length):bZ (.lst xs) (nD v) M=some xs[v]:=by
 show(bw xs.length (v:Int)).bind (λj=>xs[j]?)=_;rw[eD h];simp[h]
def sZ {Z:Env}{M:Mem}{j v c:Nat}(h:Z[j]?.getD none=some (nD v)):(ax (aL .lt (ae j) (gC (.int (c:Int)))):GT) Z M=.ok (decide (v<c)) M:=by
 refine aM ?_;simp only[eO,eU,aT,cQ];refine{_,h,_,rfl,_,rfl,?_,trivial};simp
def jg {Z:Env}{M:Mem}{j v c:Nat}(h:Z[j]?.getD none=some (nD v)):(ax (aL .eq (ae j) (gC (.int (c:Int)))):GT) Z M=.ok ((v:Int)==(c:Int)) M:=by
 refine aM ?_;simp only[eO,eU,aT,cQ];exact{_,h,_,rfl,_,rfl,rfl,trivial}
section
variable{Z:Env}{M:Mem}{g a:GE}{rest:GS}{kf:Fl->Mem->Prop}
section
variable{P:Nat->Option Df}(hp_:HasP0 P)(n:Nat){i j p B many:Nat}(hj:Z[j]?.getD none=some (.cell p))(hg:g Z M=.ok (nD many) M)(hp:aJ M p B)(hB:B<=1000000)(h0:0<many)(h1:many<=10000000)
include hp_ hj hg hp hB h0 h1
theorem fw:ai (aq 31 (ak P (n+2)) (aa (ae j) (aa g ah)) Z M) λd M'=>∃v:Nat,d=nD v/\v<many/\aJ M' p (B+1)/\a7 p M M':=by
 rw[bB (az (aw hj) (az hg rfl))];exact vX hp_ n hp hB h0 h1
theorem ft (hk:∀(v:Nat) (M':Mem),v<many->aJ M' p (B+1)->a7 p M M'->ai (rest (Z.set i (some (nD v))) M') kf):ai (ag (aI (.one i) (aq 31 (ak P (n+2)) (aa (ae j) (aa g ah)))) rest Z M) kf:=by
 refine bQ (fw hp_ n hj hg hp hB h0 h1) ?_;rintro x M' ⟨v,rfl,a,b,c⟩;exact hk v M' a b c
theorem uY {xs:List D}(hl:a Z M=.ok (.lst xs) M)(hz:xs.length=many):ai (aE a (aq 31 (ak P (n+2)) (aa (ae j) (aa g ah))) Z M) λd M'=>d∈xs/\aJ M' p (B+1)/\a7 p M M':=by
 unfold aE;rw[hl,bo,cx,bo];refine aH (fw hp_ n hj hg hp hB h0 h1) ?_;rintro x M' ⟨v,rfl,a,b,c⟩;rw[nI `a]
 exact{Px _,b,c}
end
end
section
variable{Z:Env}{M:Mem}{k:D->Mem->Prop}
def j5 {e:GE}{K:Fl->Mem->Prop}(h:ai (e Z M) λx M=>K (.ret x) M):ai (ag (aK e) aj Z M) K:=by
 simp only[aF,cb];exact h
def Ai {e:GE}{j v w:Nat}(he:e Z M=.ok (nD v) M)(hj:Z[j]?.getD none=some (nD w))(hw:0<w):au false .mod e (ae j) Z M=.ok (nD (v % w)) M:=by
 unfold au;rw[he];show(ae j Z M).bind _=_;rw[aw hj];show(if (0:Int)<(w:Int) then Res.ok (D.int ((v:Int) % (w:Int))) M else .bad)=_;rw[if_pos `a]
 rfl
def rq {e f:GE}{v w:Nat}(he:e Z M=.ok (nD v) M)(hf:f Z M=.ok (nD w) M):au false .add e f Z M=.ok (nD (v+w)) M:=by
 unfold au;rw[he];show(f Z M).bind _=_;rw[hf];rfl
def Hy {e:GE}{v c:Nat}(he:e Z M=.ok (nD v) M)(hc:c<=v):au false .sub e (gC (.int (c:Int))) Z M=.ok (nD (v-c)) M:=by
 unfold au;rw[he];show Res.ok (D.int ((v:Int)-(c:Int))) M=_;rw[<- Int.ofNat_sub hc]
end
section
variable{P:Nat->Option Df}(h:HasP P){M:Mem}
include h
theorem zq (n:Nat){p B w:Nat}(hp:aJ M p B)(hB:B<=900000)(w2:2<=w)(w4:w<=4):ai (ak P (n+3) 32 [.cell p,nD w] M) λd M'=>∃t,d=aP t/\gR w t/\aJ M' p (B+7)/\a7 p M M':=by
 have w0:0<w:=OY `d w2
 have wM:w<=10000000:=OI w4 (Pk rfl);refine aA h.law_tab rfl ?_;show ai (jQ (ak P (n+2)) [some (.cell p),some (nD w),none,none,none,none] M) _;unfold jQ;refine ft h n (many:=6) rfl rfl hp (OI hB `d) `d `d λkind M1 hk p1 k1=>?_
 refine ft h n (many:=w) rfl rfl p1 (bd (k:=1) hB `d) w0 wM λword M2 hw p2 k2=>?_
 refine ft h n (many:=w) rfl rfl p2 (bd (k:=2) hB `d) w0 wM λother M3 ho p3 k3=>?_
 have K3:=(k1.trans k2).trans k3;have fin:∀(l:List Nat) (M':Mem),gR w l->aJ M' p (B+7)->a7 p M M'->(l.map nD).length<=sz/\∃t,D.tup (l.map nD)=aP t/\gR w t/\aJ M' p (B+7)/\a7 p M M':=λl M' hl hp' hk'=>{ay (by rw[OM,hl.1];omega),l,rfl,hl,hp',hk'}
 have p7:aJ M3 p (B+7):=p3.mono (xX (k:=3) `d)
 show ai (ag _ _ [some (.cell p),some (nD w),some (nD kind),some (nD word),some (nD other),none] M3) _;refine cS (sZ (c:=2) rfl) (λ_=>?_) λ_=>?_
 ·simp only[aF,cb,dC,aY,bh,gj,fP,aT];refine{_,rfl,_,rfl,{`a,`a},?_}
  refine comp_map (ds:=(List.range w).map λ(k:Nat)=>D.int (k:Int)) (λi acc M'=>∃t:List Nat,acc=t.map nD/\(∀x∈t,x<w)/\aJ M' p (B+3+i)/\a7 p M M') (ay `o) (λ_ _ _ _=>rfl) {[],rfl,(λ_ hx=>nomatch hx),p3,K3} ?_ ?_
  ·rintro i d acc M' hd _ ⟨t,rfl,ht,hp',hk'⟩;have hi:i<w:=by
    have:=(Oy.mp hd).1;simpa using this
   refine{_,rfl,aH (fw h n (many:=w) rfl rfl hp' `a w0 wM) ?_}
   rintro _ M4 ⟨v,rfl,hv,p4,k4⟩;refine{t++[v],by rw[List.map_append];rfl,λx hx=>?_,p4,hk'.trans k4}
   rcases Pe.mp hx with z|z
   ·exact ht x z
   ·rw[O7.mp z];exact hv
  ·rintro acc M' hl ⟨t,rfl,ht,hp',hk'⟩;simp only[OM,PX] at hl hp';exact bx.mpr (fin t M' ⟨hl,ht⟩ (hp'.mono `a) hk')
 refine cS (jg (c:=2) rfl) (λ_=>?_) λ_=>?_
 ·simp only[aF,cb,dC,aY,bh,gj,fP,aT];refine{_,rfl,_,rfl,{`a,`a},?_}
  exact vf (λk=>(k+1+word) % w) `a (λk hk=>Ai (rq (rq (aw rfl) rfl) (aw rfl)) rfl w0) (bx.mpr (fin _ M3 (vU λk _=>Nat.mod_lt _ w0) p7 K3))
 refine cS (jg (c:=3) rfl) (λ_=>?_) λ_=>?_
 ·simp only[aF,cb,dC,aY,bh,gj,fP,aT];refine{_,rfl,_,rfl,{`a,`a},?_}
  refine vf (λk=>if k=word then other else k) `a (λk hk=>?_) (bx.mpr (fin _ M3 (vU λk hk=>by split<;>assumption) p7 K3))
  have e:(ax (aL .eq (ae 0) (ae 4)):GT) [some (.int (k:Int)),some (.cell p),some (nD w),some (nD kind),some (nD word),some (nD other),none] M3=.ok ((k:Int)==(word:Int)) M3:=rfl;by_cases ck:k=word
  ·rw[if_pos ck];exact jT (k:=true) (e.trans (by rw[ck,beq_self_eq_true])) (λ_=>rfl) (λz=>nomatch z)
  ·rw[if_neg ck];exact jT (k:=false) (e.trans (by rw[PJ.mpr `a])) (λz=>nomatch z) (λ_=>rfl)
 refine cS (jg (c:=4) rfl) (λ_=>j5 ?_) λ_=>?_
 ·simp only[dv,gL,aY,bh,aT];refine{_,rfl,ay (n:=1) `d,_,rfl,Jo.mpr {{ay `o,`a,`a},List.replicate w word,?_,{List.length_replicate,λx hx=>by rw[List.eq_of_mem_replicate hx];exact hw},p7,K3}}
  simp[aP,nD]
 ·simp only[aF,fu,Gx,aT,mD,cb,dC,aY,bh,dI];simp;refine{`a,ay `a,word,eD hw,other,eD ho,((List.range w).set word other).set other word,?_,{`s,λx hx=>?_},p7.app,K3.trans a7.app}
  ·simp[aP,nD,List.map_set]
  ·rcases List.mem_or_eq_of_mem_set hx with z|rfl
   ·rcases List.mem_or_eq_of_mem_set z with y|rfl
    ·exact Qq.mp y
    ·exact ho
   ·exact hw
theorem BM (n:Nat){p B w pl:Nat}(hp:aJ M p B)(hB:B<=800000)(w2:2<=w)(w4:w<=4)(p1:1<=pl)(p2:pl<=2):ai (ak P (n+4) 33 [.cell p,nD w,nD pl] M) λd M'=>∃e:a8,d=e.d/\cj w pl e/\aJ M' p (B+40)/\a7 p M M':=by
 have pM:pl<=10000000:=OI p2 (Pk rfl);refine aA h.law_deed rfl ?_;show ai (jl (ak P (n+3)) [some (.cell p),some (nD w),some (nD pl),none,none,none,none] M) _;unfold jl;refine ft h (n+1) (many:=8) rfl rfl hp (OI hB `d) `d `d λkind M1 hk q1 k1=>?_
 refine bQ (k:=λd M'=>∃v:Nat,d=nD (1+v)/\v<3/\aJ M' p (B+2)/\a7 p M1 M') ?_ ?_
 ·rw[dv];simp only[cQ];refine aH (fw h (n+1) (many:=3) rfl rfl q1 (bd (k:=1) hB `d) `d `d) ?_
  rintro _ M2 ⟨v,rfl,hv,q,kk⟩;exact iJ.mpr {v,by show D.int (1+(v:Int))=D.int ((1+v:Nat):Int);rw[Int.natCast_add];rfl,hv,q,kk}
 rintro _ M2 ⟨price,rfl,hc,q2,k2⟩;refine ft h (n+1) (many:=pl) rfl rfl q2 (bd (k:=2) hB `d) p1 pM λat_ M3 ha q3 k3=>?_
 refine ft h (n+1) (many:=pl) rfl rfl q3 (bd (k:=3) hB `d) p1 pM λother M4 ho q4 k4=>?_
 have K4:=((k1.trans k2).trans k3).trans k4;have co:fT (1+price):={`a,`a}
 have q40:aJ M4 p (B+40):=q4.mono (xX (k:=4) `d)
 show ai (ag _ _ [some (.cell p),some (nD w),some (nD pl),some (nD kind),some (nD (1+price)),some (nD at_),some (nD other)] M4) _;refine cS (sZ (c:=3) rfl) (λ_=>j5 ?_) λ_=>?_
 ·simp only[gL,aY,bh,cQ,aT,fx];refine{_,rfl,_,rfl,_,rfl,aH (zq h n q4 (bd (k:=4) hB `d) w2 w4) λd M' ⟨t,e,ht,hp',hk'⟩=>{_,rfl,ay (n:=4) `d,.turn at_ t (1+price),?_,⟨ha,ht,co⟩,hp'.mono (xX (k:=11) `d),K4.trans hk'}}
  subst e;rfl
 refine cS (sZ (c:=5) rfl) (λ_=>j5 ?_) λ_=>?_
 ·obtain⟨o,eo,ho'⟩:∃o:Nat,fJ (ax (aL .eq (ae 3) (gI 3))) (au false .mod (au false .add (ae 5) (gI 1)) (ae 2)) (ae 6) [some (.cell p),some (nD w),some (nD pl),some (nD kind),some (nD (1+price)),some (nD at_),some (nD other)] M4=.ok (nD o) M4/\o<pl:=by
   have e:(ax (aL .eq (ae 3) (gI 3)):GT) [some (.cell p),some (nD w),some (nD pl),some (nD kind),some (nD (1+price)),some (nD at_),some (nD other)] M4=.ok ((kind:Int)==3) M4:=jg (c:=3) rfl;cases q:(kind:Int)==3 with
   |true=>rw[q] at e;exact{(at_+1) % pl,jT e (λ_=>Ai (w:=pl) (rq (v:=at_) (w:=1) (aw rfl) rfl) rfl p1) (λz=>nomatch z),Nat.mod_lt _ p1}
   |false=>rw[q] at e;exact{other,jT e (λz=>nomatch z) (λ_=>aw rfl),ho}
  simp only[gL,aY,bh,cQ,aT];refine{_,rfl,?_};rw[eo,cx];exact{_,rfl,ay (n:=4) `d,.move at_ o (1+price),rfl,⟨ha,ho',co⟩,q40,K4}
 refine cS (jg (c:=5) rfl) (λ_=>j5 ?_) λ_=>?_
 ·simp only[gL,aY,bh,cQ];show ai (ak P (n+3) 31 [.cell p,nD w] M4) _;refine tk h (n+1) q4 (bd (k:=4) hB `d) (OY `d w2) (OI w4 (Pk rfl)) λv M5 hv q5 k5=>?_
  exact{ay (n:=4) `d,.put at_ v (1+price),rfl,⟨ha,hv,co⟩,q5.mono (xX (k:=5) `d),K4.trans k5}
 ·simp only[aF,cb,gL,aY,bh,cQ,dC,gj,fP,aT];refine{_,rfl,_,rfl,_,rfl,_,rfl,{`a,`a},?_}
  refine comp_map (ds:=(List.range w).map λ(k:Nat)=>D.int (k:Int)) (λi acc M'=>∃t:List (List Nat),acc=t.map aP/\(∀x∈t,gR w x)/\aJ M' p (B+4+i*7)/\a7 p M M') (ay `o) (λ_ _ _ _=>rfl) {[],rfl,(λ_ hx=>nomatch hx),q4,K4} ?_ ?_
  ·rintro i d acc M' hd _ ⟨t,rfl,ht,hp',hk'⟩;have hi:i<w:=by
    have:=(Oy.mp hd).1;simpa using this
   refine{_,rfl,?_};rw[bB (az (aw rfl) (az (aw rfl) rfl))];refine aH (zq h n hp' `a w2 w4) ?_
   rintro _ M4 ⟨v,rfl,hv,p4,k4⟩;refine{t++[v],by rw[List.map_append];rfl,λx hx=>?_,p4.mono `a,hk'.trans k4}
   rcases Pe.mp hx with z|z
   ·exact ht x z
   ·rw[O7.mp z];exact hv
  ·rintro acc M' hl ⟨t,rfl,ht,hp',hk'⟩;simp only[OM,PX] at hl hp';exact bx.mpr {ay (by rw[OM];omega),_,rfl,ay (n:=5) `d,.join at_ other t (1+price),rfl,{ha,ho,⟨hl,ht⟩,co},hp'.mono `a,hk'}
theorem xq (n:Nat){p B W Pl mo:Nat}(hp:aJ M p B)(hB:B<=700000)(W2:2<=W)(W4:W<=4)(P1:1<=Pl)(P2:Pl<=2)(m1:1<=mo)(m6:mo<=6):ai (ak P (n+5) 34 [.cell p,nD W,nD Pl,nD mo] M) λd M'=>∃m:aU,d=m.d/\bf m/\m.words<=W/\m.places<=Pl/\m.deeds.length<=mo/\aJ M' p (B+300)/\a7 p M M':=by
 refine aA h.law_machine rfl ?_;show ai (gz (ak P (n+4)) [some (.cell p),some (nD W),some (nD Pl),some (nD mo),none,none,none,none] M) _;unfold gz;have plus:∀{Z:Env}{M:Mem}{g:GE}{B c many:Nat}{rest:GS}{K:Fl->Mem->Prop}{i:Nat},Z[0]?.getD none=some (.cell p)->g Z M=.ok (nD many) M->aJ M p B->B<=1000000->0<many->many<=10000000->(∀(v:Nat) (M':Mem),v<many->aJ M' p (B+1)->a7 p M M'->ai (rest (Z.set i (some (nD (c+v)))) M') K)->ai (ag (aI (.one i) (au false .add (gC (.int (c:Int))) (aq 31 (ak P (n+4)) (aa (ae 0) (aa g ah))))) rest Z M) K:=by
  intro Z M g B c many rest K i e0 eg hp hB h0 h1 hk;refine bQ (k:=λd M'=>∃v:Nat,d=nD (c+v)/\v<many/\aJ M' p (B+1)/\a7 p M M') ?_ ?_
  ·rw[dv];simp only[cQ];refine aH (fw h (n+2) (many:=many) e0 eg hp hB h0 h1) ?_;rintro _ M2 ⟨v,rfl,hv,q,kk⟩;exact iJ.mpr {v,by show D.int ((c:Int)+(v:Int))=D.int ((c+v:Nat):Int);rw[Int.natCast_add],hv,q,kk}
  ·rintro _ M' ⟨v,rfl,a,b,c⟩;exact hk v M' a b c
 refine plus (c:=2) (many:=W-1) rfl (Hy (c:=1) (aw rfl) `a) hp (OI hB `d) `a `a λw M1 hw q1 k1=>?_
 refine plus (c:=1) (many:=Pl) rfl (aw rfl) q1 (bd (k:=1) hB `d) P1 (OI P2 (Pk rfl)) λpl M2 hpl q2 k2=>?_
 have pl2:p<M2.length:=q2.lt;have K2:=k1.trans k2;have ML:M.length<=M2.length:=K2.len;have w2:2<=2+w:=Nat.le_add_right _ _;have w4:2+w<=4:=`a
 have l1:1<=1+pl:=Nat.le_add_right _ _;have l2:1+pl<=2:=`a
 generalize hW:2+w=w' at w2 w4;generalize hP:1+pl=p' at l1 l2;refine bQ (k:=λd M'=>d=.cell M2.length/\M'=M2++[[]]) ?_ ?_
 ·simp only[jM,bh];exact nA.mpr {Qy _,rfl,rfl}
 rintro _ _ ⟨rfl,rfl⟩;show ai (ag _ _ [some (.cell p),some (nD w'),some (nD p'),some (nD mo),some (.cell M2.length),none,none,none] (M2++[[]])) _;simp only[aF,dS,fP,dv,cQ];refine aH (fw h (n+2) (many:=mo) rfl rfl q2.app (bd (k:=2) hB `d) m1 (OI m6 (Pk rfl))) ?_
 rintro _ M3 ⟨many,rfl,hmany,q3,k3⟩;have e3:M3[M2.length]?=some []:=k3.get (List.getElem?_concat_length) `a
 have K3:a7 p M M3:=K2.trans (a7.app.trans k3);generalize hq:M2.length=q at *;refine iJ.mpr {_,rfl,{`a,`a},?_}
 rw[show(1+(many:Int)).toNat=1+many by omega]
 refine cy (ds:=(List.range (1+many)).map λ(k:Nat)=>D.int (k:Int)) (λi Z M'=>∃ds:List a8,M'[q]?=some (ds.map a8.d)/\ds.length=i/\(∀d∈ds,cj w' p' d)/\aJ M' p (B+3+i*45)/\a7 p M M'/\∃a b c,Z=[some (.cell p),some (nD w'),some (nD p'),some (nD mo),some (.cell q),a,b,c])
  (λ_ _ _ _=>rfl) {[],e3,rfl,(λ_ hd=>nomatch hd),q3,K3,none,none,none,rfl} ?_ ?_
 ·rintro i d Z M' hd ⟨ds,e4,hl,hds,q4,K4,a,b,c,rfl⟩;have hi:i<1+many:=by
   have:=(Oy.mp hd).1;simpa using this
  have hi6:i<=5:=`a
  have hB4:B+3+i*45<=700228:=`a
  have hqM:M.length<=q:=ML;have hpq:p<q:=pl2;refine{_,rfl,?_};refine ft h (n+2) (many:=5) rfl rfl q4 (OI hB4 `d) `d `d λagain M5 ha q5 k5=>?_
  have e5:=k5.get e4 (P4 hpq);refine bQ (k:=λd M'=>∃e:a8,d=e.d/\cj w' p' e/\aJ M' p (B+3+i*45+41)/\a7 p M5 M') ?_ ?_
  ·rw[bB (az (aw rfl) (az (aw rfl) (az (aw rfl) rfl)))];exact aH (BM h n (w:=w') (pl:=p') q5 (bd (k:=1) hB4 `d) w2 w4 l1 l2) λd M' ⟨e,a,b,c,d⟩=>⟨e,a,b,c,d⟩
  rintro _ M6 ⟨e,rfl,he,q6,k6⟩;have e6:=k6.get e5 (P4 hpq);have K6:=(K4.trans k5).trans k6;have hsm:(ds.map a8.d).length<sz:=QI (show(ds.map a8.d).length<=50 by rw[OM,hl];omega) `d
  have fin:∀(e:a8) (M'':Mem) (x5 x6:Option D),cj w' p' e->M''[q]?=some (ds.map a8.d)->aJ M'' p (B+3+(i+1)*45)->a7 p M M''->
   ai (ag (jB (ae 4) (ae 7)) aj [some (.cell p),some (nD w'),some (nD p'),some (nD mo),some (.cell q),x5,x6,some e.d] M'') λfl M'=>∃ρ',fl=.next ρ'/\∃ds:List a8,M'[q]?=some (ds.map a8.d)/\ds.length=i+1/\(∀d∈ds,cj w' p' d)/\aJ M' p (B+3+(i+1)*45)/\a7 p M M'/\∃a b c,ρ'=[some (.cell p),some (nD w'),some (nD p'),some (nD mo),some (.cell q),a,b,c]:=by
   intro e M'' x5 x6 he e7 q7 K7;simp only[aF,zE,aT];refine{_,rfl,_,rfl,q,ds.map a8.d,rfl,e7,hsm,_,rfl,ds++[e],?_,by rw[Pz,hl];rfl,λd hd=>?_,q7.setq hpq,K7.setq hqM,_,_,_,rfl}
   ·rw[Pf (Oy.mp e7).1,List.map_append];rfl
   ·rcases Pe.mp hd with z|z
    ·exact hds d z
    ·rw[O7.mp z];exact he
  show ai (ag _ _ [some (.cell p),some (nD w'),some (nD p'),some (nD mo),some (.cell q),some d,some (nD again),some e.d] M6) _;have en:(ax (aL .ne (ae 4) (aO false ah)):GT) [some (.cell p),some (nD w'),some (nD p'),some (nD mo),some (.cell q),some d,some (nD again),some e.d] M6=.ok (!ds.isEmpty) M6:=by
   refine eL ?_;unfold aL;show(cK M6 (br .ne (.cell q) (.lst []) M6)).bind _=_;rw[ne_nil e6];rfl
  refine cS (G4 (jg (c:=0) rfl) en) (λcc=>?_) λ_=>fin e M6 _ _ he e6 (q6.mono `a) K6
  have hpos:0<ds.length:=by
   rw[OB] at cc;cases ds with
   |nil=>exact absurd cc.2 `d
   |cons _ _=>exact Nat.succ_pos _
  simp only[aF,fu,dv,mi,fK,gL,aY,bh,Ew,cQ];have el:aX .len (aa (ae 4) ah) [some (.cell p),some (nD w'),some (nD p'),some (nD mo),some (.cell q),some d,some (nD again),some e.d] M6=.ok (nD ds.length) M6:=by
   refine av ?_;simp only[dC,aY,bh,aT];exact{_,rfl,oO.mpr {_,e6,by rw[OM],rfl}}
  show ai (aq 31 (ak P (n+4)) (aa (ae 0) (aa (aX .len (aa (ae 4) ah)) ah)) [some (.cell p),some (nD w'),some (nD p'),some (nD mo),some (.cell q),some d,some (nD again),some e.d] M6) _;refine aH (fw h (n+2) (many:=ds.length) rfl el q6 (bd (k:=41) hB4 `d) hpos `a) ?_
  rintro _ M7 ⟨v,rfl,hv,q7,k7⟩;have e7:=k7.get e6 (P4 hpq);refine{(ds.getD v e).d,?_,1,rfl,rfl,rfl,?_}
  ·show(M7[q]?).bind (λds=>(bw ds.length (v:Int)).bind λj=>ds[j]?)=_;rw[e7];show(bw (ds.map a8.d).length (v:Int)).bind (λj=>(ds.map a8.d)[j]?)=_;rw[eD (by rw[OM];exact hv)]
   simp[PQ,hv]
  ·refine aH (C4 (d:=ds.getD v e) (c:=e.cost) (k:=λx M'=>ai (ag (jB (ae 4) (ae 7)) aj [some (.cell p),some (nD w'),some (nD p'),some (nD mo),some (.cell q),some d,some (nD again),some x] M') λfl M'=>∃ρ',fl=.next ρ'/\∃ds:List a8,M'[q]?=some (ds.map a8.d)/\ds.length=i+1/\(∀d∈ds,cj w' p' d)/\aJ M' p (B+3+(i+1)*45)/\a7 p M M'/\∃a b c,ρ'=[some (.cell p),some (nD w'),some (nD p'),some (nD mo),some (.cell q),a,b,c]) ?_) λx1 M3 hx=>{1,rfl,nD e.cost,AB,ay (n:=1) `d,hx}
   exact fin _ M7 _ _ (Bd (hds _ (getD_mem hv)) (GX he)) e7 (q7.mono `a) (K6.trans k7)
 ·rintro Z M' ⟨ds,e4,hl,hds,q4,K4,a,b,c,rfl⟩;simp only[OM,PX] at hl q4;refine j5 ?_;simp only[gL,aY,bh,dC,aT];refine{_,rfl,_,rfl,_,rfl,xl.mpr {_,e4,ay (n:=3) `d,⟨w',p',ds⟩,rfl,{w2,w4,l1,l2,?_,?_,hds},?_,?_,?_,q4.mono `a,K4}}
  ·show 1<=ds.length;omega
  ·show ds.length<=6;omega
  ·show w'<=W;omega
  ·show p'<=Pl;omega
  ·show ds.length<=mo;omega
omit h in
theorem Gi {g:GE}{Z:Env}{l:List a8}(e:g Z M=.ok (.tup (l.map a8.d)) M):aX .len (aa g ah) Z M=.ok (nD l.length) M:=by
 refine av ?_;simp only[dC];rw[az e rfl,cx];exact{congrArg (λ(n:Nat)=>D.int n) (OM _),rfl}
theorem nv (h35:P 35=some {3,6,eV})(n:Nat){p B mo:Nat}{m:aU}(hm:bf m)(hp:aJ M p B)(hB:B<=700000)(hmo:mo<=40):ai (ak P (n+3) 35 [.cell p,m.d,nD mo] M) λd M'=>∃r:List Nat,d=.lst (r.map nD)/\eI m r/\r.length<=mo/\aJ M' p (B+50)/\a7 p M M':=by
 refine aA h35 rfl ?_;show ai (eV (ak P (n+2)) [some (.cell p),some m.d,some (nD mo),none,none,none] M) _;unfold eV;refine ft h n (many:=4) rfl rfl hp `a `d `d λkind M1 _ q1 k1=>?_
 refine bQ (k:=λd M'=>∃v:Nat,d=nD v/\v<=mo/\aJ M' p (B+2)/\a7 p M M') ?_ ?_
 ·show ai (fJ _ _ _ [some (.cell p),some m.d,some (nD mo),some (nD kind),none,none] M1) _;have t0:(ax (aL .eq (ae 3) (gI 0)):GT) [some (.cell p),some m.d,some (nD mo),some (nD kind),none,none] M1=.ok ((kind:Int)==((0:Nat):Int)) M1:=jg rfl;rw[LG,t0,cx];split
  ·exact{mo,rfl,OF _,q1.mono `a,k1}
  ·refine aH (fw h n (many:=mo+1) rfl rfl q1 `a (Nat.succ_pos _) `a) λd M' ⟨v,e,hv,a,b⟩=>{v,e,Nat.le_of_lt_succ hv,a,k1.trans b}
 intro x M2 hx;show ai (ag _ _ [some (.cell p),some m.d,some (nD mo),some (nD kind),some x,none] M2) _;obtain⟨many,ex,hmany,q2,k2⟩:=hx;rw[ex];clear ex;simp only[aF,fu,gj,fP,aT];have m40:many<=40:=OI hmany hmo;refine{_,rfl,_,rfl,{Int.le_trans `d (Int.natCast_nonneg _),Int.lt_of_le_of_lt (Int.ofNat_le.mpr m40) `d},?_}
 rw[Int.toNat_natCast];refine comp_map (ds:=(List.range many).map λ(k:Nat)=>D.int (k:Int)) (λi acc M'=>∃t:List Nat,acc=t.map nD/\(∀x∈t,x<m.deeds.length)/\aJ M' p (B+2+i)/\a7 p M M') (ay (by rw[OM,PX];omega)) (λ_ _ _ _=>rfl) {[],rfl,(λ_ z=>nomatch z),q2,k2} ?_ ?_
 ·rintro i d acc M' hd _ ⟨t,rfl,ht,hp',hk'⟩;have hi:i<many:=by
   have:=(Oy.mp hd).1
   rwa [OM,PX] at this
  refine{_,rfl,?_};refine aH (fw h n (many:=m.deeds.length) rfl (Gi (gG (aw rfl) rfl Ju)) hp' `a hm.d1 (by have:=hm.d6;omega)) ?_
  rintro _ M4 ⟨v,rfl,hv,p4,k4⟩;refine{t++[v],by rw[List.map_append];rfl,λx hx=>?_,p4,hk'.trans k4}
  rcases Pe.mp hx with z|z
  ·exact ht x z
  ·rw[O7.mp z];exact hv
 ·rintro acc M' hl ⟨t,rfl,ht,hp',hk'⟩;rw[OM,OM,PX] at hl;rw[OM,PX] at hp';have q3:=hp'.mono (show B+2+many<=B+50 by omega)
  have k3:=hk';have hl:t.length<=many:=Nat.le_of_eq hl;refine bx.mpr {ay (by rw[OM];omega),?_}
  show ai (ag _ _ [some (.cell p),some m.d,some (nD mo),some (nD kind),some (nD many),some (.lst (t.map nD))] M') _;refine cS (jg (v:=kind) (c:=1) rfl) (λ_=>?_) λ_=>b7 (aw rfl) {t,rfl,{`a,ht},`a,q3,k3}
  refine bQ (k:=λd M4=>M4=M'/\d=.lst ((((List.replicate many (t.take 2)).flatten).take many).map nD)) ?_ ?_
  ·have l2:((t.map nD).take 2).length<=2:=by rw[PU];exact Nat.min_le_left _ _
   simp only[mi,dv,aT,cQ];refine{_,rfl,rfl,rfl,(pE (a:=2)).mpr {ay `a,_,rfl,Jp.mpr {{?_,`a,`a},bx.mpr {?_,?_}}}}
   ·exact OI (Nat.mul_le_mul l2 (show many<=40 by omega)) `d
   ·rw[Int.toNat_natCast,List.length_flatten,List.map_replicate,List.sum_replicate_nat];exact OI (Nat.mul_le_mul (show many<=40 by omega) l2) `d
   ·refine{_,rfl,rfl,rfl,pE.mpr {ay (by rw[PU];exact OI (Nat.min_le_left _ _) `a),rfl,?_}}
    rw[Int.toNat_natCast,List.map_take,List.map_flatten,List.map_replicate,List.map_take]
  rintro _ _ ⟨rfl,rfl⟩;have lm:(((List.replicate many (t.take 2)).flatten).take many).length<=many:=by rw[PU];exact Nat.min_le_left _ _
  refine mE.mpr (dI.mpr (b7 (aw rfl) {_,rfl,{`a,λi hi=>?_},`a,q3,k3}))
  obtain⟨l,hl1,hl2⟩:=List.mem_flatten.mp (Pw hi);rw[(List.mem_replicate.mp hl1).2] at hl2;exact ht i (Pw hl2)
end
def Fq {xs:List D}{a b:Nat}{M:Mem}{k:D->Mem->Prop}:ai (fq false (.frz xs) (.int a) (.int b) M) k↔(cut xs (min a xs.length) (min b xs.length)).length<=sz/\k (.lst (cut xs (min a xs.length) (min b xs.length))) M:=by
 show ai (match aS xs.length 0 (.int a),aS xs.length xs.length (.int b) with|some l,some h=>bE false (cut xs l h) M|_,_=>.bad) k↔_
 have e1:aS xs.length 0 (.int a)=some (min a xs.length):=by
  show some _=_;rw[if_neg `a];simp
 have e2:aS xs.length xs.length (.int b)=some (min b xs.length):=by
  show some _=_;rw[if_neg `a];simp
 rw[e1,e2];exact bx
def BS {xs:List D}{b:Nat}{M:Mem}{k:D->Mem->Prop}:ai (fq false (.frz xs) .non (.int b) M) k↔(cut xs 0 (min b xs.length)).length<=sz/\k (.lst (cut xs 0 (min b xs.length))) M:=by
 show ai (match aS xs.length 0 D.non,aS xs.length xs.length (.int b) with|some l,some h=>bE false (cut xs l h) M|_,_=>.bad) k↔_
 have e2:aS xs.length xs.length (.int b)=some (min b xs.length):=by
  show some _=_;rw[if_neg `a];simp
 rw[e2];exact bx
def wV {α β:Type}(f:α->β)(l:List α)(a b:Nat):cut (l.map f) a b=(cut l a b).map f:=by simp[cut,List.map_take,List.map_drop]
def qY {α:Type}(l:List α)(a b:Nat):(cut l a b).length<=l.length:=by simp[cut];omega
section
variable{P:Nat->Option Df}(h:HasP0 P){M:Mem}
include h
theorem Fi (n:Nat){ns:List Int}(hn:ns.length<=63):ai (ak P (n+1) 29 [.frz (ns.map D.int)] []) λd M'=>d=.cell 1/\aJ M' 1 0:=by
 refine aA h.law_open rfl ?_;simp[lg,cH];refine(BS (b:=12)).mpr {?_,?_}
 ·exact ay (OI (qY _ _ _) `o)
 simp only[l7,nA];refine{ay (OI (qY _ _ _) `o),(Fq (a:=12) (b:=63)).mpr {ay (OI (qY _ _ _) `o),⟨rfl,rfl⟩,?_}}
 rw[wV,wV];simp only[OM,List.length_nil,Qg];have e63:min 63 ns.length=ns.length:=`a
 rw[e63];refine cy (ds:=b8 0 ((cut ns (min 12 ns.length) ns.length).map D.int)) (λi Z M'=>∃l:List Int,M'=[l.map D.int]/\l.length=min 12 ns.length/\∃a b,Z=[some (.frz (ns.map D.int)),some (.cell 0),a,b]) (λ_ _ _ _=>rfl) {cut ns 0 (min 12 ns.length),rfl,by simp[cut],none,none,rfl} ?_ ?_
 ·rintro i d Z M' hd ⟨l,rfl,hl,a,b,rfl⟩;rw[cU,Ph] at hd;cases e:(cut ns (min 12 ns.length) ns.length)[i]? with
  |none=>rw[e] at hd;cases hd
  | some x =>
    rw[e] at hd;have hd:D.tup [.int ((0+i:Nat):Int),.int x]=d:=OG hd;subst hd;have hi:=(Oy.mp e).1;have hlen:12<ns.length:=by
     by_cases c:12<ns.length
     ·exact c
     ·have:min 12 ns.length=ns.length:=`a
      rw[this] at hi;simp[cut] at hi
    have l12:l.length=12:=`a
    have r1:=Qc (i:Int) (show(12:Int)≠0 by decide)
    have r2:=P5 (i:Int) (show(0:Int)<12 by decide)
    obtain⟨y,ey⟩:=qN (l:=l) r1 (by rw[l12];exact r2)
    obtain⟨k,ek⟩:∃k:Nat,(i:Int) % 12=(k:Int):={((i:Int) % 12).toNat,`a}
    refine{_,rfl,?_};simp;rw[ek] at ey ⊢;have hk:k<l.length:=`a
    refine{_,ey,?_};simp only[iJ];refine{l.map D.int,rfl,k,?_,l.set k (y+x),?_,by simp[hl]}
    ·simpa using eD hk
    ·simp[List.map_set]
 ·rintro Z M' ⟨l,rfl,hl,a,b,rfl⟩;simp;exact{`d,{0,l,0,0,rfl,rfl,`d,`d,`d,`d}}
end
def Sub.keep {p:Nat}{M M':Mem}(h:Sub M M'):a7 p M M':={h.len,λk hk _=>h.at' k hk}
def Sub.pen {p B:Nat}{M M':Mem}(h:Sub M M')(hp:aJ M p B):aJ M' p B:=by
 obtain⟨c,cells,a,st,e1,e2,r⟩:=hp.ex;exact{c,cells,a,st,h.get e1,h.get e2,r}
def oC (n:Nat)(l:List Nat):aC (n+1) (aP l)=true:=by
 show(l.map nD).all (aC n)=true;rw[OJ];intro x hx;obtain⟨i,_,rfl⟩:=Pt.mp hx;cases n<;>rfl
def kB (n:Nat)(l:List (List Nat)):(l.map aP).all (aC (n+1))=true:=by
 rw[OJ];intro x hx;obtain⟨i,_,rfl⟩:=Pt.mp hx;exact oC n i
structure mq (P:Nat->Option Df):Prop where
 after:P 41=some {2,4,kj}
 begins:P 42=some {1,1,jE}
structure nY (P:Nat->Option Df):Prop where
 same:P 40=some {2,2,d8}
def rB:∀ds:List D,jA ds ds=ds.map λd=>.tup [d,d]
 |[]=>rfl
 |d::r=>by simp[jA,rB r]
def xH {ds:List D}{M:Mem}:br .notin (.bl false) (.lst (ds.map λ_=>.bl true)) M=some true:=by
 show((cm M (.lst (ds.map λ_=>.bl true))).bind (iC (view M (.bl false)))).map (!·)=_;show(iC (.bl false) (ds.map λ_=>.bl true)).map (!·)=_;unfold iC;rw[if_pos]
 ·have:(ds.map λ_=>D.bl true).any (λy=>dJ y (.bl false))=false:=by
   rw[List.any_eq_false];intro x hx;obtain⟨_,_,rfl⟩:=Pt.mp hx;exact Pc
  rw[this];rfl
 ·simp[aC]
@[simp] theorem uO {m:Bool}{ds:List D}{M:Mem}{k:D->Mem->Prop}:ai (eY (.list m) [.tup ds] M) k↔ai (bE m ds M) k:=PL
def bq {x y:Str}{b:Bool}(e:qg (.str x) (.str y)=some b)(M:Mem):br .eq (.str x) (.str y) M=some b:=by
 show lI M (.str x) (.str y)=some b;unfold lI;rw[show qg (view M (.str x)) (view M (.str y))=some b from e]
def yp {m:aU}{d:a8}{s:List Nat}(hd:cj m.words m.places d)(hs:gZ m s):fy d s=s.set d.at' (eK d s):=by
 have a0:=tu hd;rw[List.set_eq_take_append_cons_drop,if_pos (by rw[hs.1];exact a0)]
 simp[fy]
def eJ {D0:D}{nm w:Str}{A rest:GS}{Z:Env}{M:Mem}{k:Fl->Mem->Prop}(h0:Z[0]?=some (some D0))(e0:bZ D0 (.int 0) M=some (.str nm))(c:br .eq (.str nm) (.str w) M=some false)(h:ai (rest Z M) k):ai (ag (aQ (ax (aL .eq (aE (ae 0) (gI 0)) (gC (.str w)))) A aj) rest Z M) k:=by
 simp[h0,e0,c,h]
def nq {D0:D}{nm w:Str}{A rest:GS}{Z:Env}{M:Mem}{k:Fl->Mem->Prop}(h0:Z[0]?=some (some D0))(e0:bZ D0 (.int 0) M=some (.str nm))(c:br .eq (.str nm) (.str w) M=some true)(h:ai (A Z M) (gK rest k)):ai (ag (aQ (ax (aL .eq (aE (ae 0) (gI 0)) (gC (.str w)))) A aj) rest Z M) k:=by
 simp[h0,e0,c,h]
noncomputable def ug (c:Call):GS:=ag (aQ (ax (aL .ne (aX .len (aa (ae 0) ah)) (aX .len (aa (ae 1) ah)))) rF aj) (ag (aK (aL .notin wN (bU false 2 (.tup [0,1]) (nJ (ae 0) (ae 1)) (bR (aq 40 c (aa (ae 0) (aa (ae 1) ah))))))) aj)
section
variable{P:Nat->Option Df}(h:nY P){M:Mem}
include h
theorem zC (n:Nat){x y:D}{ds:List D}{Z:Env}{kl:List D->Mem->Prop}(hx:cm M x=some ds)(hy:cm M y=some ds)(hz:ds.length<=sz)(hs:∀d∈ds,ak P n 40 [d,d] M=.ok (.bl true) M)(hk:kl (ds.map λ_=>.bl true) M) :
 ai (dX (dY (.tup [0,1]) (bR (aq 40 (ak P n) (aa (ae 0) (aa (ae 1) ah)))) (none::none::Z)) (pw x y) [] M) kl:=by
 refine jv (ds:=ds.map λd=>.tup [d,d]) (λ_=>.bl true) (by simpa using hz) ?_ ?_ ?_
 ·simp[pw,hx,hy,rB]
 ·intro d hd;obtain⟨e,he,rfl⟩:=Pt.mp hd;refine{_,rfl,?_};refine av ?_;simp;rw[hs e he];exact⟨rfl,rfl⟩
 ·simpa[Function.comp_def] using hk
theorem BW (n:Nat){x y:D}{ds:List D}(hx:cm M x=some ds)(hy:cm M y=some ds)(lx:eY .len [x] M=.ok (.int ds.length) M)(ly:eY .len [y] M=.ok (.int ds.length) M)(sx:dO x=true)(sy:dO y=true)(hz:ds.length<=sz)(hs:∀d∈ds,ak P n 40 [d,d] M=.ok (.bl true) M) :
 ai (ug (ak P n) [some x,some y] M) (iW λd M'=>d=.bl true/\M'=M):=by
 simp[ug,lx,ly,sx,sy];exact zC h n hx hy hz hs {by simpa using hz,xH,rfl}
end
section
variable{P:Nat->Option Df}(h:mq P){M:Mem}
include h
set_option maxHeartbeats 2000000 in
theorem jR (n:Nat){D0:D}{nm:Str}{s:List Nat}{a:Nat}{v:Nat}(ha:a<s.length)(hz:s.length<=100)(e0:∀M,bZ D0 (.int 0) M=some (.str nm))(e1:∀M,bZ D0 (.int 1) M=some (nD a))
 (bT bJ bM bP:Bool) (cT:∀M,br .eq (.str nm) (.str "turn") M=some bT) (cJ:∀M,br .eq (.str nm) (.str "join") M=some bJ) (cM:∀M,br .eq (.str nm) (.str "move") M=some bM) (cP:∀M,br .eq (.str nm) (.str "put") M=some bP)
 (hb:(bT=true/\bJ=false/\bM=false/\bP=false/\∀M,∃t,bZ D0 (.int 2) M=some t/\bZ t (nD (s.getD a 0)) M=some (nD v))
  \/(bT=false/\bJ=true/\bM=false/\bP=false/\∀M,∃t u o,bZ D0 (.int 3) M=some t/\bZ t (nD (s.getD a 0)) M=some u/\bZ D0 (.int 2) M=some (nD o)/\o<s.length/\bZ u (nD (s.getD o 0)) M=some (nD v))
  \/(bT=false/\bJ=false/\bM=true/\bP=false/\∀M,∃o,bZ D0 (.int 2) M=some (nD o)/\o<s.length/\v=s.getD o 0)
  \/(bT=false/\bJ=false/\bM=false/\bP=true/\∀M,bZ D0 (.int 2) M=some (nD v))) :
 ak P (n+1) 41 [D0,aP s] M=.ok (aP (s.set a v)) (M++[(s.set a v).map nD]):=by
 refine av (aA h.after rfl ?_);have S:∀M i,i<s.length->bZ (aP s) (nD i) M=some (nD (s.getD i 0)):=λM i hi=>iD hi;have T:ai (eY (.list true) [aP s] M) (λx M'=>x=.cell M.length/\M'=M++[s.map nD]):=by
  show ai (eY (.list true) [.tup (s.map nD)] M) _;rw[uO,nA];exact{ay `o,rfl,rfl}
 simp only[kj,aF,fu,dC,fK,cQ,aY,bh,aT,Qm,List.map_nil,QC,Qg,O9,Pb,Pm,Pp,exists_eq_left',dI];refine aH T λx M' hx=>?_;obtain⟨rfl,rfl⟩:=hx;have q:=S (M++[s.map nD]) a ha;refine{_,rfl,_,rfl,_,e1 _,_,q,?_};have fin:∀Z:Env,Z[2]?=some (some (.cell M.length))->ai (ag (aK (aX .tuple (aa (ae 2) ah))) aj Z ((M++[s.map nD]).set M.length ((s.map nD).set a (nD v)))) (iW λx M'=>x=aP (s.set a v)/\M'=M++[(s.set a v).map nD]):=λZ hρ=>by
  simp[hρ];simp[aP,List.map_set]
 have gl:(M++[s.map nD])[M.length]?=some (s.map nD):=`s
 have ix:bw (s.map nD).length (a:Int)=some a:=eD (by simpa using ha)
 rcases hb with⟨rfl,rfl,rfl,rfl,hv⟩|⟨rfl,rfl,rfl,rfl,hv⟩|⟨rfl,rfl,rfl,rfl,hv⟩|⟨rfl,rfl,rfl,rfl,hv⟩
 ·obtain⟨t,v1,v2⟩:=hv (M++[s.map nD]);refine aF.mp (nq rfl (e0 _) (cT _) ?_);simp only[aF,mD,fK,aT,cQ];refine{_,rfl,_,v1,_,rfl,_,v2,_,rfl,_,rfl,_,e1 _,_,_,_,_,rfl,rfl,gl,ix,?_};exact eJ rfl (e0 _) (cJ _) (eJ rfl (e0 _) (cM _) (eJ rfl (e0 _) (cP _) (fin _ rfl)))
 ·obtain⟨t,u,o,v1,v2,v3,v4,v5⟩:=hv (M++[s.map nD]);refine aF.mp (eJ rfl (e0 _) (cT _) (nq rfl (e0 _) (cJ _) ?_));simp only[aF,mD,fK,aT,cQ];refine{_,rfl,_,v1,_,rfl,_,v2,_,rfl,_,rfl,_,v3,_,S _ _ v4,_,v5,_,rfl,_,rfl,_,e1 _,_,_,_,_,rfl,rfl,gl,ix,?_};exact eJ rfl (e0 _) (cM _) (eJ rfl (e0 _) (cP _) (fin _ rfl))
 ·obtain⟨o,v1,v2,v3⟩:=hv (M++[s.map nD]);subst v3;refine aF.mp (eJ rfl (e0 _) (cT _) (eJ rfl (e0 _) (cJ _) (nq rfl (e0 _) (cM _) ?_)));simp only[aF,mD,fK,aT,cQ];refine{_,rfl,_,rfl,_,v1,_,S _ _ v2,_,rfl,_,rfl,_,e1 _,_,_,_,_,rfl,rfl,gl,ix,?_};exact eJ rfl (e0 _) (cP _) (fin _ rfl)
 ·have v1:=hv (M++[s.map nD]);refine aF.mp (eJ rfl (e0 _) (cT _) (eJ rfl (e0 _) (cJ _) (eJ rfl (e0 _) (cM _) (nq rfl (e0 _) (cP _) ?_))));simp only[aF,mD,fK,aT,cQ];refine{_,rfl,_,v1,_,rfl,_,rfl,_,e1 _,_,_,_,_,rfl,rfl,gl,ix,?_};exact fin [some D0,some (aP s),some (.cell M.length),some (nD (s.getD a 0))] rfl
theorem BQ (n:Nat){m:aU}{d:a8}{s:List Nat}(hm:bf m)(hd:cj m.words m.places d)(hs:gZ m s):ak P (n+1) 41 [d.d,aP s] M=.ok (aP (fy d s)) (M++[(fy d s).map nD]):=by
 rw[yp hd hs];have l0:=hs.1;have p2:=hm.p2;have g:∀i,i<m.places->s.getD i 0<m.words:=λi hi=>hs.2 _ (getD_mem `a)
 have nw:=pR hd hs;have a0:=tu hd;have ha:d.at'<s.length:=`a
 cases d with
 |turn a t c=>exact jR h n ha `a (λ_=>rfl) (λ_=>rfl) true false false false (bq `k) (bq `k) (bq `k) (bq `k) (.inl {rfl,rfl,rfl,rfl,λM=>{aP t,rfl,iD (by rw[hd.2.1.1];exact g _ hd.1)}})
 | join a o t c =>
   refine jR h n ha `a (λ_=>rfl) (λ_=>rfl) false true false false (bq `k) (bq `k) (bq `k) (bq `k) (.inr (.inl {rfl,rfl,rfl,rfl,λM=>{.tup (t.map aP),aP (t.getD (s.getD a 0) []),o,rfl,AA (by rw[hd.2.2.1.1];exact g _ hd.1),rfl,by rw[l0];exact hd.2.1,iD ?_}}))
   rw[(hd.2.2.1.2 _ (getD_mem (by rw[hd.2.2.1.1];exact g _ hd.1))).1]
   exact g _ hd.2.1
 |move a o c=>exact jR h n ha `a (λ_=>rfl) (λ_=>rfl) false false true false (bq `k) (bq `k) (bq `k) (bq `k) (.inr (.inr (.inl {rfl,rfl,rfl,rfl,λM=>{o,rfl,by rw[l0];exact hd.2.1,rfl}})))
 |put a x c=>exact jR h n ha `a (λ_=>rfl) (λ_=>rfl) false false false true (bq `k) (bq `k) (bq `k) (bq `k) (.inr (.inr (.inr {rfl,rfl,rfl,rfl,λM=>rfl})))
theorem zx (n:Nat){m:aU}(hm:bf m):ak P (n+1) 42 [m.d] M=.ok (.lst ((cz m).map aP)) M:=by
 refine av (aA h.begins rfl ?_);simp[jE];have p1:=hm.p1;have p2:=hm.p2;have w2:=hm.w2;have w4:=hm.w4;refine{_,rfl,?_};have hp:m.places=1\/m.places=2:=`a
 have hw:m.words=2\/m.words=3\/m.words=4:=`a
 rcases hp with ep|ep
 ·refine .inr {by rw[ep];rfl,_,rfl,_,rfl,`a,?_}
  refine jv (ds:=(List.range m.words).map λ(k:Nat)=>D.int (k:Int)) (λd=>.tup [d]) (ay `o) `s (λd hd=>{_,rfl,av (by simp;exact ay `a)}) {ay `o,?_,rfl}
  unfold cz;rw[ep];rcases hw with e|e|e<;>rw[e]<;>rfl
 ·refine .inl {by rw[ep];rfl,_,rfl,_,rfl,?_}
  simp;refine{`a,?_}
  have ew:((m.words:Int)*(m.words:Int)).toNat=m.words*m.words:=by rw[<- Int.natCast_mul];rfl
  have hw2:m.words*m.words<=16:=Nat.mul_le_mul w4 w4;rw[ew];refine{{by rw[<- Int.natCast_mul];omega,by rw[<- Int.natCast_mul];omega},?_}
  have key:∀k:Nat,(bH (aa (au false mz.fdiv (ae 0) (aE (ae 1) (gC (D.int 0)))) (aa (au false mz.mod (ae 0) (aE (ae 1) (gC (D.int 0)))) ah))) [some (nD k),some m.d] M=.ok (aP [k / m.words,k % m.words]) M:=by
   intro k;refine av ?_;simp;refine{_,rfl,?_};simp;refine{`a,_,rfl,?_}
   simp;exact{`a,ay `a,rfl}
  refine comp_map (ds:=(List.range (m.words*m.words)).map λ(k:Nat)=>D.int (k:Int)) (λi acc M'=>M'=M/\acc=((List.range (m.words*m.words)).take i).map λk=>aP [k / m.words,k % m.words]) (ay (by simpa using by omega)) (λ_ _ _ _=>rfl) ⟨rfl,rfl⟩ ?_ ?_
  ·rintro i d acc M' hd _ ⟨rfl,rfl⟩;have hi:=(Oy.mp hd).1;simp at hi;have:d=nD i:=by
    rw[Ph,List.getElem?_range `a] at hd
    exact(OG hd).symm
   subst this;refine{_,rfl,?_};rw[show List.set [none,some m.d] 0 (some (nD i))=[some (nD i),some m.d] from rfl,key i];refine{rfl,?_};rw[P9,List.getElem?_range `a]
   simp
  ·rintro acc M' _ ⟨rfl,rfl⟩;simp;refine{ay `a,?_}
   unfold cz;rw[ep];rcases hw with e|e|e<;>rw[e]<;>rfl
end
section
variable{Z:Env}{M:Mem}{a b d:GE}{k:D->Mem->Prop}{kw:Walk->Mem->Prop}{kf:Fl->Mem->Prop}
@[simp] theorem Oq:ai (qb a b d Z M) kw↔ai (a Z M) λx M=>ai (b Z M) λy M=>ai (d Z M) λz M=>(dO x&&dO y&&dO z)=true/\kw (pj x y z) M:=by
 simp only[qb,bo];refine iff_of_eq ?_;congr 1;funext x M;congr 1;funext y M;congr 1;funext z M;split<;>simp_all
@[simp] theorem LF {m:Bool}:ai (oS m a Z M) k↔ai (a Z M) λx M=>ai (xx m x M) k:=by simp[oS]
@[simp] theorem Oi {m:Bool}{xs:List D}:ai (xx m (.lst xs) M) k↔ai (bE m xs.reverse M) k:=PL
@[simp] theorem Fy {m:Bool}{xs:List D}:ai (xx m (.tup xs) M) k↔k (.tup xs.reverse) M:=PL
def qT {t:dB}{w:Walk}{gb:GS}{ds:List D}(I:Nat->Env->Mem->Prop)(R:D->Mem->Prop)(hw:∀i Z M,I i Z M->w M=some ds)(hwR:∀d M,R d M->w M=some ds)(h0:I 0 Z M)
 (hs:∀i d Z M,ds[i]?=some d->I i Z M->∃ρ1,cX t d Z=some ρ1/\ai (gb ρ1 M) λfl M=>(∃ρ',fl=.next ρ'/\I (i+1) ρ' M)\/∃d,fl=.ret d/\R d M) (hk:∀Z M,I ds.length Z M->kf (.next Z) M) (hr:∀d M,R d M->kf (.ret d) M) :
 ai (dX (ic t gb) w (.next Z) M) kf:=by
 refine fE (λi fl M=>(∃Z,fl=.next Z/\I i Z M)\/∃d,fl=.ret d/\R d M) (λi fl M h=>h.elim (λ⟨Z,_,h⟩=>hw i Z M h) λ⟨d,_,h⟩=>hwR d M h) (.inl ⟨Z,rfl,h0⟩) ?_ ?_
 ·rintro i d fl M hd (⟨Z,rfl,hI⟩|⟨d',rfl,hR⟩)
  ·obtain⟨ρ1,e,h⟩:=hs i d Z M hd hI;simp only[ic,bo,ka,e];exact⟨ρ1,rfl,h⟩
  ·exact .inr ⟨d',rfl,hR⟩
 ·rintro fl M (⟨Z,rfl,hI⟩|⟨d,rfl,hR⟩)
  ·exact hk Z M hI
  ·exact hr d M hR
end
def Kh (i j:Nat):dJ (nD i) (nD j)=decide (i=j):=by
 show((i:Int)==(j:Int))=_;rw[Qk];simp;omega
def vp:∀l r:List Nat,jD (l.map nD) (r.map nD)=decide (l=r)
 |[],[]=>rfl
 |[],_::_=>rfl
 |_::_,[]=>rfl
 | i :: l, j :: r => by
   show(dJ (nD i) (nD j)&&jD (l.map nD) (r.map nD))=_;rw[Kh,vp l r,Qk];simp
def A3 (l r:List Nat):dJ (aP l) (aP r)=decide (l=r):=vp l r
def vo:∀l r:List (List Nat),jD (l.map aP) (r.map aP)=decide (l=r)
 |[],[]=>rfl
 |[],_::_=>rfl
 |_::_,[]=>rfl
 | i :: l, j :: r => by
   show(dJ (aP i) (aP j)&&jD (l.map aP) (r.map aP))=_;rw[A3,vo l r,Qk];simp
def um (n:Nat)(l:List Nat):aC (n+1) (.lst (l.map nD))=true:=by
 show(l.map nD).all (aC n)=true;rw[OJ];intro x hx;obtain⟨i,_,rfl⟩:=Pt.mp hx;cases n<;>rfl
def vm {l r:List Nat}{M:Mem}:br .ne (aP l) (aP r) M=some (!decide (l=r)):=iY (oC 63 l) (oC 63 r) (A3 l r)
def sv {l r:List (List Nat)}{M:Mem}:br .eq (.tup (l.map aP)) (.tup (r.map aP)) M=some (decide (l=r)):=nR (kB 62 l) (kB 62 r) (vo l r)
def sr {l r:List (List Nat)}{M:Mem}:br .ne (.tup (l.map aP)) (.tup (r.map aP)) M=some (!decide (l=r)):=iY (kB 62 l) (kB 62 r) (vo l r)
def A2 {l r:List Nat}{M:Mem}:br .ne (.lst (l.map nD)) (.lst (r.map nD)) M=some (!decide (l=r)):=iY (um 63 l) (um 63 r) (vp l r)
noncomputable def ends (m:aU)(r:List Nat):List (List Nat):=(cz m).map (cu m r)
section
variable{P:Nat->Option Df}(h:mq P){M:Mem}
include h
theorem vI (he:P 44=some {2,5,cW})(n:Nat){m:aU}{x:D}{r:List Nat}(hx:d4 M x r)(hm:bf m)(hr:∀i∈r,i<m.deeds.length):ai (ak P (n+2) 44 [m.d,x] M) λd M'=>d=.tup ((ends m r).map aP)/\Sub M M':=by
 have bb:=zx h n (M:=M++[[]]) hm;have bl:=vq hm;refine aA he rfl ?_;simp[cW,bb];refine{rfl,?_};generalize hq:M.length=q;refine cy (ds:=(cz m).map aP) (λi Z M'=>M'[q]?=some (((cz m).take i).map λs=>aP (cu m r s))/\Sub M M'/\q<M'.length/\∃x3 x4,Z=[some m.d,some x,some (.cell q),x3,x4]) (λ_ _ _ _=>rfl) {by subst hq;simp,Sub.app,by subst hq;simp,none,none,rfl} ?_ ?_
 ·rintro i d Z M' hd ⟨e4,S4,hql,x3,x4,rfl⟩;rw[Ph] at hd;cases e:(cz m)[i]? with
  |none=>rw[e] at hd;cases hd
  | some s =>
    rw[e] at hd;cases OG hd;have hi:=(Oy.mp e).1;have hs:=wY s (OV e);refine{_,rfl,?_};simp[hx.is];refine cy (ds:=r.map nD) (λj Z M2=>M2[q]?=some (((cz m).take i).map λs=>aP (cu m r s))/\Sub M M2/\q<M2.length/\∃x4,Z=[some m.d,some x,some (.cell q),some (aP (cu m (r.take j) s)),x4]) (λ_ _ _ e=>(hx.sub e.2.1).seq) ⟨e4,S4,hql,x4,rfl⟩ ?_ ?_
    ·rintro j dd Z M2 hj ⟨f4,T4,ql2,y4,rfl⟩;rw[Ph] at hj;cases ej:r[j]? with
     |none=>rw[ej] at hj;cases hj
     | some k =>
       rw[ej] at hj;cases OG hj;have hk:=hr k (OV ej);have hst:gZ m (cu m (r.take j) s):=qW hm (λx hx=>hr x (Pw hx)) hs;have af:=BQ h n (M:=M2) hm (lQ hm hk) hst;refine{_,rfl,?_};simp[-iV,Ju,uZ hk,af];exact{by rw[Pd ql2,f4,List.map_take],T4.trans Sub.app,`a,by rw[P9,ej];simp[u6,cu]}
    ·rintro Z M2 ⟨f4,T4,ql2,y4,rfl⟩;simp[f4];exact{QI (show _<=50 by omega) `d,by rw[Pf ql2,P9];simp[e],T4.setq `a,ql2}
 ·rintro Z M' ⟨e4,S4,hql,x3,x4,rfl⟩;rw[OM,List.take_length] at e4;simp[e4,ends,Function.comp_def,S4]
theorem iP (he:P 44=some {2,5,cW})(n:Nat){m:aU}{r:List Nat}(hm:bf m)(hr:∀i∈r,i<m.deeds.length):ai (ak P (n+2) 44 [m.d,.lst (r.map nD)] M) λd M'=>d=.tup ((ends m r).map aP)/\Sub M M':=vI h he n .l hm hr
end
noncomputable def ir (m:aU)(a b:List Nat):Option (List Nat):=(cz m).find? λs=>!decide (cu m a s=cu m b s)
def IQ:Option (List Nat)->D
 |some s=>aP s
 |none=>.non
def om {α:Type}(f g e:α->D):∀l:List α,gp (l.map f) (l.map g) (l.map e)=l.map λs=>.tup [f s,g s,e s]
 |[]=>rfl
 |a::l=>by simp[gp,om f g e l]
def zV {m:aU}{a b:List Nat}{i:Nat}{s:List Nat}(hi:(cz m)[i]?=some s)(h:∀t∈(cz m).take i,cu m a t=cu m b t)(hs:cu m a s≠cu m b s):ir m a b=some s:=by
 have e:cz m=(cz m).take i++s::(cz m).drop (i+1):=by
  obtain⟨h1,h2⟩:=Oy.mp hi;rw[<- h2,<- List.drop_eq_getElem_cons h1,List.take_append_drop]
 unfold ir;rw[e,List.find?_append];have:((cz m).take i).find? (λs=>!decide (cu m a s=cu m b s))=none:=by
  rw[List.find?_eq_none];intro t ht;simp[h t ht]
 rw[this];simp[List.find?_cons,hs]
def zU {m:aU}{a b:List Nat}(h:∀t∈cz m,cu m a t=cu m b t):ir m a b=none:=by
 unfold ir;rw[List.find?_eq_none];intro t ht;simp[h t ht]
def mv {m:aU}{a b:List Nat}:ir m a b=none↔ends m a=ends m b:=by
 unfold ir ends;rw[List.find?_eq_none,List.map_inj_left];simp
structure yG (P:Nat->Option Df):Prop where
 h15:P 15=some {1,6,fA}
 h27:P 27=some {2,2,jj}
 h46:P 46=some {2,2,jx}
 parted:P 48=some {3,8,pb}
section
variable{P:Nat->Option Df}{M:Mem}
def t8 (h:HasM P)(ha:yG P)(n:Nat){m:aU}{x y:D}{a b:List Nat}(hx:d4 M x a)(hy:d4 M y b)(hm:bf m)(h1:eI m a)(h2:eI m b):ai (ak P (n+12) 48 [m.d,x,y] M) λd M'=>d=IQ (ir m a b)/\Sub M M':=by
 have b1:=rP h ha.h15 ha.h27 ha.h46 n hx hm h1;have b2:=rP h ha.h15 ha.h27 ha.h46 n (hy.sub (Sub.app (X:=(cz m).map λs=>(fv m a s).map aP))) hm h2;generalize hM2:(M++(cz m).map λs=>(fv m a s).map aP)++((cz m).map λs=>(fv m b s).map aP)=M2 at b2;have S2:Sub M M2:=by subst hM2;rw[List.append_assoc];exact Sub.app
 have bb:=v7 h.toHasM0 ha.h15 (n+2) (M:=M2) hm;refine aA ha.parted rfl ?_;simp[pb,b1,b2,bb,dO];refine{⟨rfl,rfl⟩,?_};refine qT (ds:=(cz m).map λs=>.tup [aP s,aP (cu m a s),aP (cu m b s)]) (λi Z M'=>(∀t∈(cz m).take i,cu m a t=cu m b t)/\Sub M M'/\∃x5 x6 x7,Z=[some m.d,some x,some y,some (oX m a),some (oX m b),x5,x6,x7]) (λd M'=>d=IQ (ir m a b)/\Sub M M') ?_ ?_ {`s,S2,none,none,none,rfl} ?_ ?_ ?_
 ·rintro i Z M' _;simp[pj,cm,oX,om]
 ·rintro d M' _;simp[pj,cm,oX,om]
 ·rintro i d Z M' hd ⟨hp,S',x5,x6,x7,rfl⟩;rw[Ph] at hd;cases e:(cz m)[i]? with
  |none=>rw[e] at hd;cases hd
  | some s =>
    rw[e] at hd;cases OG hd;refine{_,rfl,?_};by_cases c:cu m a s=cu m b s
    ·simp[vm,c];refine{?_,S'};intro t ht;rw[P9,e] at ht;rcases Pe.mp ht with z|z
     ·exact hp t z
     ·simp at z;subst z;exact c
    ·simp[vm,c];exact{by rw[zV e hp c];rfl,S'}
 ·rintro Z M' ⟨hp,S',x5,x6,x7,rfl⟩;simp at hp ⊢;exact{by rw[zU (by simpa[Qa] using hp)];rfl,S'}
 ·rintro d M' ⟨rfl,S'⟩;simp[S']
end
def Sub.to {p:Nat}{M M1 M':Mem}(k:a7 p M M1)(h:Sub M1 M'):a7 p M M':=k.trans h.keep
def Fo {xs:List D}{a:Nat}{M:Mem}{k:D->Mem->Prop}:ai (fq false (.lst xs) .non (nD a) M) k↔(xs.take a).length<=sz/\k (.lst (xs.take a)) M:=pE
noncomputable def pairD (p:List Nat×List Nat):D:=.tup [.lst (p.1.map nD),.lst (p.2.map nD)]
structure Kq (m:aU) (k:Nat) (p:List Nat×List Nat):Prop where
 r1:eI m p.1
 r2:eI m p.2
 l1:p.1.length<=k
 l2:p.2.length<=k
 al:ends m p.1=ends m p.2
noncomputable def tD (m:aU)(k:Nat)(prs:List (List Nat×List Nat)):Prop:=∀pr∈prs,Kq m k pr
section
variable{P:Nat->Option Df}(hp_:HasP P)(h35:P 35=some {3,6,eV})(hs_:mq P)(he:P 44=some {2,5,cW})(hal:P 49=some {2,7,eW}){M:Mem}
include hp_ h35 hs_ he hal
theorem BP (n:Nat){p B:Nat}{m:aU}(hm:bf m)(hp:aJ M p B)(hB:B<=600000):ai (ak P (n+4) 49 [.cell p,m.d] M) λd M'=>∃q prs,d=.cell q/\M.length<=q/\M'[q]?=some (prs.map pairD)/\prs≠[]/\prs.length<=200/\tD m 3 prs/\aJ M' p (B+450)/\a7 p M M':=by
 refine aA hal rfl ?_;have d1:=hm.d1;simp only[eW,aF,fu,dv,gj,fP,cQ];refine{9,rfl,`d,?_}
 refine comp_map (ds:=(List.range 9).map λ(k:Nat)=>D.int (k:Int)) (λi acc M'=>∃rs:List (List Nat),acc=rs.map bF/\rs.length=i/\(∀r∈rs,eI m r/\r.length<=3)/\aJ M' p (B+i*50)/\a7 p M M') (ay `s) (λ_ _ _ _=>rfl) {[],rfl,rfl,`s,by simpa using hp,.refl} ?_ ?_
 ·rintro i d acc M' hd _ ⟨rs,rfl,hl,hr,hp',hk'⟩;have hi:i<9:=by
   have:=(Oy.mp hd).1;simpa using this
  refine{_,rfl,?_};simp;refine aH (nv hp_ h35 n (mo:=3) hm hp' `a `d) λd M5 ⟨one,e1,h1,l1,q5,k5⟩=>?_
  subst e1;refine{rs++[one],by simp[bF],by simp[hl],λr hr'=>?_,q5.mono `a,hk'.trans k5}
  rcases Pe.mp hr' with z|z
  ·exact hr r z
  ·simp at z;subst z;exact⟨h1,l1⟩
 ·rintro acc M1 _ ⟨rs,rfl,hl,hr,p1,k1⟩;simp at hl p1;simp only[bx];refine{ay `o,?_}
  simp;have szr:∀r:List Nat,r.length<=41->(r.map nD).length<=sz:=λr h=>ay `o
  refine{ay `a,ay `a,ay `a,?_}
  let some_:List (List Nat):=rs++[[],[0]]
  have es:rs.map bF++[D.lst [],D.lst [D.int 0]]=some_.map bF:=by simp[some_,bF]
  rw[es];have hsome:∀r∈some_,eI m r/\r.length<=3:=by
   intro r hr';simp only[some_,Pe,OL,Pa,or_false] at hr';rcases hr' with z|z|z
   ·exact hr r z
   ·subst z;exact{{`s,λi hi=>by cases hi},`s}
   ·subst z;exact{{`s,λi hi=>by simp at hi;omega},`s}
  have lsome:some_.length=11:=by simp[some_,hl]
  obtain⟨r0,rr,er⟩:∃r0 rr,some_=r0::rr:=by
   cases q:some_ with
   |nil=>rw[q] at lsome;cases lsome
   |cons a b=>exact⟨a,b,rfl⟩
  have h0:=hsome r0 (by rw[er];exact OT)
  have i0:((bw (rs.length+2) 0).bind λj=>(List.map bF some_)[j]?)=some (bF r0):=by
   rw[er];show((bw (rs.length+2) ((0:Nat):Int)).bind _)=_;rw[eD `a];rfl
  refine{bF r0,i0,bF r0,i0,?_};show ai (eY (.list false) [.lst (r0.map nD)] M1) _;rw[l7,bx];refine{szr r0 `a,ay `a,ay `a,⟨rfl,rfl⟩,?_}
  generalize hq:M1.length=q;have pq:p<q:=by have:=p1.lt;omega
  refine cy (ds:=b8 0 (some_.map bF)) (λi Z M'=>(∃prs,M'[q]?=some (prs.map pairD)/\prs≠[]/\prs.length<=1+i*11/\tD m 3 prs)/\aJ M' p (B+450)/\a7 p M M'/\∃x4 x5 x6,Z=[some (.cell p),some m.d,some (.lst (some_.map bF)),some (.cell q),x4,x5,x6]) (λ_ _ _ _=>rfl) ?_ ?_ ?_
  ·refine{{[(r0,r0)],?_,`s,`s,?_},(p1.mono `a).app,k1.trans .app,none,none,none,rfl}
   ·subst hq;simp[pairD,bF]
   ·intro pr hpr;simp at hpr;subst hpr;exact⟨h0.1,h0.1,h0.2,h0.2,rfl⟩
  ·rintro i d Z M' hd ⟨⟨prs,e1,e2,e3,e4⟩,p2,k2,x4,x5,x6,rfl⟩;rw[cU,Ph] at hd;cases eo:some_[i]? with
   |none=>rw[eo] at hd;cases hd
   | some one =>
     rw[eo] at hd;have hd:D.tup [.int ((0+i:Nat):Int),bF one]=d:=OG hd;subst hd;have hi:i<11:=by rw[<- lsome];exact(Oy.mp eo).1
     have ho:=hsome one (OV eo);refine{_,rfl,?_};rw[Qs];simp;refine{rfl,rfl,pE.mpr {ay `o,rfl,?_}}
     rw[<- List.map_take];refine cy (ds:=(some_.take i).map bF) (λj Z M'=>(∃prs,M'[q]?=some (prs.map pairD)/\prs≠[]/\prs.length<=1+i*11+j/\tD m 3 prs)/\aJ M' p (B+450)/\a7 p M M'/\∃x6,Z=[some (.cell p),some m.d,some (.lst (some_.map bF)),some (.cell q),some (nD i),some (bF one),x6]) (λ_ _ _ _=>rfl) {⟨prs,e1,e2,e3,e4⟩,p2,k2,x6,rfl} ?_ ?_
     ·rintro j d Z M3 hd ⟨⟨prs,e1,e2,e3,e4⟩,p3,k3,y6,rfl⟩;rw[Ph] at hd;cases eo2:(some_.take i)[j]? with
      |none=>rw[eo2] at hd;cases hd
      | some other =>
        rw[eo2] at hd;cases OG hd;have hj:j<i:=by
         have:=(Oy.mp eo2).1;simp at this;omega
        have h2:=hsome other (Pw (OV eo2));refine{_,rfl,?_};have cne:br .ne (bF one) (bF other) M3=some (!decide (one=other)):=A2;simp[cne];by_cases c:one=other
        ·exact .inl {c,{prs,e1,e2,`a,e4},p3,k3}
        ·refine .inr {c,?_};refine aH (iP hs_ he (n+1) (M:=M3) hm ho.1.2) λd M4 ⟨ed,S4⟩=>?_;subst ed;refine aH (iP hs_ he (n+1) (M:=M4) hm h2.1.2) λd M5 ⟨ed,S5⟩=>?_;subst ed;have S:=S4.trans S5;have e5:M5[q]?=some (prs.map pairD):=S.get e1;by_cases c2:ends m one=ends m other
         ·refine .inr {by rw[sv,c2];simp,?_}
          show ai (eY (.list false) [.lst (other.map nD)] M5) _;rw[l7,bx];refine{szr other `a,ay `a,_,e5,?_,{prs++[(one,other)],?_,`s,by simp;omega,λpr hpr=>?_},(S.pen p3).setq pq,(S.to k3).setq ?_}
          ·exact QI (show _<=1000 by simp;omega) `d
          ·rw[Pf (Oy.mp e5).1];simp[pairD,bF]
          ·rcases Pe.mp hpr with z|z
           ·exact e4 pr z
           ·simp at z;subst z;exact⟨ho.1,h2.1,ho.2,h2.2,c2⟩
          ·have:=k1.len;omega
         ·exact .inl {by rw[sv];simp[c2],{prs,e5,e2,`a,e4},S.pen p3,S.to k3}
     ·rintro Z M3 ⟨⟨prs,e1,e2,e3,e4⟩,p3,k3,y6,rfl⟩;simp;refine{{prs,e1,e2,?_,e4},p3,k3};simp at e3;omega
  ·rintro Z M3 ⟨⟨prs,e1,e2,e3,e4⟩,p3,k3,x4,x5,x6,rfl⟩;simp;refine{by have:=k1.len;omega,prs,e1,e2,?_,e4,p3,k3}
   have:(b8 0 (some_.map bF)).length=11:=by rw[eG];simpa using lsome
   rw[this] at e3;omega
end
abbrev Di:=List Nat×List Nat
structure MN where
 place:Nat
 num:Nat
 back:Bool
def MN.d (s:MN):D:=.tup [nD s.place,nD s.num,.bl s.back]
def Di.way (r:Di)(b:Bool):Di:=if b then(r.2,r.1) else r
def mY {tg:dB}{w:Walk}{gc:GT}{ge:GE}{ds:List D}{ρ0:Env}{M:Mem}{kl:List D->Mem->Prop}(f:D->Bool)(g:D->D)(hz:ds.length<=sz)(hw:w M=some ds)
 (hs:∀d∈ds,∃ρ1,cX tg d ρ0=some ρ1/\gc ρ1 M=.ok (f d) M/\(f d=true->ge ρ1 M=.ok (g d) M)) (hk:kl ((ds.filter f).map g) M):ai (dX (dY tg (lG gc (bR ge)) ρ0) w [] M) kl:=by
 refine fE (λi acc M'=>M'=M/\acc=((ds.take i).filter f).map g) (λi acc M' h=>by rw[h.1];exact hw) ⟨rfl,rfl⟩ ?_ ?_
 ·rintro i d acc M' hd ⟨rfl,rfl⟩;obtain⟨ρ1,e1,e2,e3⟩:=hs d (OV hd);have hi:i<ds.length:=(Oy.mp hd).1;simp only[dY,e1,Cg,Res.bind_ok,lG,e2];rw[P9,hd];cases q:f d with
  | false =>
    simp[q]
  | true =>
    rw[if_pos rfl];have len:(((ds.take i).filter f).map g).length<=i:=by
     rw[OM];exact OI (List.length_filter_le _ _) `o
    simp only[bR,e3 q,Res.bind_ok];rw[if_pos `a]
    simp[q]
 ·rintro acc M' ⟨rfl,rfl⟩;simpa using hk
def pA (M:Mem):∀(n k:Nat) (d:D),aC k d=true->cw n M d=d
 |0,_,_,_=>rfl
 | n + 1, k, d, h => by
   have all:∀(k:Nat) (ds:List D),ds.all (aC k)=true->ds.map (cw n M)=ds:=λk ds hp=>by
    rw[OJ] at hp
    conv=>rhs;rw[<- List.map_id ds]
    exact List.map_congr_left λd hd=>pA M n k d (hp d hd)
   cases d with
   | tup ds =>
     cases k with
     |zero=>simp[aC] at h
     |succ k=>exact congrArg D.tup (all k ds (by simpa[aC] using h))
   | lst ds =>
     cases k with
     |zero=>simp[aC] at h
     |succ k=>exact congrArg D.lst (all k ds (by simpa[aC] using h))
   |frz ds=>cases k<;>simp[aC] at h
   |cell q=>cases k<;>simp[aC] at h
   |fn f=>cases k<;>simp[aC] at h
   |exc y p=>cases k<;>simp[aC] at h
   |_=>rfl
structure i9 (P:Nat->Option Df):Prop where
 whole:P 67=some {1,1,kU}
 is_in:P 68=some {3,3,m7}
 numbers:P 69=some {4,4,i7}
 is_deed:P 70=some {3,3,bp}
 is_machine:P 71=some {1,1,fk}
def pz:D->Bool
 |.int _=>true
 |_=>false
def eq_empty {l:List D}{M:Mem}(hp:l.all (aC 63)=true):br .eq (.lst l) (.lst []) M=some l.isEmpty:=by
 refine nR hp rfl ?_;cases l<;>rfl
def mh (f:D->Bool):∀ds:List D,((ds.filter λd=>!f d).map λ_=>D.int 1).isEmpty=ds.all f
 |[]=>rfl
 | d :: r => by
   have ih:=mh f r;cases q:f d with
   |true=>simpa[q] using ih
   |false=>simp[q]
def qG {w:GW}{gc:GT}{Z:Env}{M:Mem}{ds:List D}{k:D->Mem->Prop}(f:D->Bool)(hw:ai (w Z M) λwk M'=>M'=M/\wk M=some ds)(hz:ds.length<=sz)(he:∀d∈ds,gc (some d::Z) M=.ok (!f d) M)(hk:k (.bl (ds.all f)) M) :
 ai (aL .eq (bU false 1 (.one 0) w (lG gc (bR (gI 1)))) (aO false ah) Z M) k:=by
 simp only[eU,gj,jM,bh,bx];refine aH hw λwk M' ⟨e1,e2⟩=>?_;subst e1;refine mY (λd=>!f d) (λ_=>.int 1) hz e2 (λd hd=>{some d::Z,rfl,he d hd,λ_=>rfl}) ?_;refine{OI (by rw[OM];exact List.length_filter_le _ _) hz,ay `d,_,eq_empty ?_,?_}
 ·rw[OJ];intro x hx;obtain⟨_,_,rfl⟩:=Pt.mp hx;rfl
 ·rw[mh];exact hk
section
variable{P:Nat->Option Df}(h:i9 P){M:Mem}{k L:Nat}{d:D}
include h
theorem ky (n:Nat)(hd:Th k L d):ak P (n+1) 67 [d] M=.ok (.bl (pz d)) M:=by
 refine av (aA h.whole rfl ?_);cases d with
 |fn j=>cases k<;>exact hd.elim
 |exc y p=>cases k<;>exact hd.elim
 |_=>exact cV rfl
theorem jn (n:Nat)(hd:Th k L d)(lo hi:Int):ak P (n+2) 68 [d,.int lo,.int hi] M=.ok (.bl (aZ lo hi d)) M:=by
 refine av (aA h.is_in rfl ?_);have e:aq 67 (ak P (n+1)) (aa (ae 0) ah) [some d,some (.int lo),some (.int hi)] M=.ok (.bl (pz d)) M:=ji rfl (ky h n (M:=M) hd);cases d with
 |fn j=>cases k<;>exact hd.elim
 |exc y p=>cases k<;>exact hd.elim
 |int i=>exact b7 (iI e λ_=>Kf rfl rfl rfl) ⟨rfl,rfl⟩
 |_=>exact b7 (iI (y:=false) e λz=>by cases z) ⟨rfl,rfl⟩
noncomputable def qE (many:Nat)(lo hi:Int):D->Bool
 |.tup ds=>ds.length==many&&ds.all (aZ lo hi)
 |_=>false
theorem qu (n:Nat)(hd:Th k L d)(hL:L<=100){many:Nat}(lo hi:Int):ak P (n+3) 69 [d,nD many,.int lo,.int hi] M=.ok (.bl (qE many lo hi d)) M:=by
 refine av (aA h.numbers rfl ?_);cases d with
 |fn j=>cases k<;>exact hd.elim
 |exc y p=>cases k<;>exact hd.elim
 | tup ds =>
   have ht:=hd.tup;simp only[i7,aF,mE,cb,dI,tP,ig,lS,eO,BD,cQ,aT,u7,Qm,List.map_nil,QC,Qg,O9,Pb,Pm,Pp,exists_eq_left'];refine{true,rfl,true,rfl,?_};rw[if_neg `d]
   refine eU.mpr (dC.mpr (aY.mpr (aT.mpr {_,rfl,bh.mpr (lF.mpr (aT.mpr {_,rfl,_,L8,_,rfl,?_}))})));by_cases el:ds.length=many
   ·have e0:(!((ds.length:Int)==(many:Int)))=false:=by simp[el]
    rw[e0,if_neg `d]
    refine qG (aZ lo hi) (ds:=ds) (by simp;exact⟨rfl,rfl⟩) (ay `a) (λd hd=>aM (by simp[jn h n (ht.2 d hd)])) ?_
    exact{by simp[qE,el],rfl}
   ·have e0:(!((ds.length:Int)==(many:Int)))=true:=by simp;omega
    rw[e0,if_pos `d]
    exact{by simp[qE,el],rfl}
 |_=>exact cV rfl
end
abbrev dD:List D:=[.str "turn",.str "join",.str "move",.str "put"]
def Ae {k L:Nat}{x:D}{M:Mem}(hx:Th k L x)(hk:k<=60):br .notin x (.tup dD) M=some (!(dD.any λy=>dJ y x)):=by
 have hp:aC 64 x=true:=(hx.mono (n':=64) `a (OF L)).pure
 have e:br .notin x (.tup dD) M=((cm M (.tup dD)).bind (iC (view M x))).map (!·):=by cases x<;>rfl
 rw[e,hx.view];show Option.map _ (iC x dD)=_;unfold iC;rw[hp,show dD.all (aC 63)=true by decide +kernel]
 rfl
section
variable{P:Nat->Option Df}(h:i9 P){M:Mem}{k L:Nat}{d:D}
include h
theorem An (n:Nat){w p:Nat}{xs:List D}(hl:xs.length≠4/\xs.length≠5):ak P (n+4) 70 [.tup xs,nD w,nD p] M=.ok (.bl false) M:=by
 refine av (aA h.is_deed rfl ?_);show ai (bp _ [some (.tup xs),some (nD w),some (nD p)] M) _;unfold bp;refine bu (aM ?_) rfl ⟨rfl,rfl⟩;have e:br .notin (.int xs.length) (.tup [.int 4,.int 5]) M=some true:=by
  show((iC (.int xs.length) [.int 4,.int 5]).map (!·))=_;have e1:dJ (.int 4) (.int xs.length)=false:=by simp[yv];omega
  have e2:dJ (.int 5) (.int xs.length)=false:=by simp[yv];omega
  show(some ([D.int 4,D.int 5].any λy=>dJ y (.int xs.length))).map (!·)=_;simp[e1,e2]
 simp[bI,e];exact ay `d
theorem xZ (n:Nat){w p:Nat}{x:D}{xs:List D}(hx:Th k L x)(hk:k<=60)(hl:xs.length=3\/xs.length=4)(hn:(dD.any λy=>dJ y x)=false):ak P (n+4) 70 [.tup (x::xs),nD w,nD p] M=.ok (.bl false) M:=by
 refine av (aA h.is_deed rfl ?_);show ai (bp _ [some (.tup (x::xs)),some (nD w),some (nD p)] M) _;unfold bp;have e:br .notin (.int (x::xs).length) (.tup [.int 4,.int 5]) M=some false:=by
  show((iC (.int (x::xs).length) [.int 4,.int 5]).map (!·))=_;show(some ([D.int 4,D.int 5].any λy=>dJ y (.int (x::xs).length))).map (!·)=_;rcases hl with e|e<;>simp[yv,e]
 have e2:=Ae (M:=M) hx hk;rw[hn] at e2;refine aG (aM ?_) (bu (aM ?_) rfl ⟨rfl,rfl⟩)
 ·simp at e;simp[bI,e];exact ay `d
 ·simp[bw,e2];exact ay `d
theorem Ez (n:Nat){w p:Nat}{xs:List D}{a c:D}(hL1:L+1<=100)(i1:bZ (.tup xs) (.int 1) M=some a)(il:bZ (.tup xs) (.int (-1)) M=some c)(ha:Th k L a)(hc:Th k L c) :
 (eA (bC (ax (aq 69 (ak P (n+3)) (aa (bH (aa (aE (ae 0) (gI 1)) ah)) (aa (gI 1) (aa (gI 0) (aa (au false .sub (ae 2) (gI 1)) ah))))))) (bC (ax (aq 68 (ak P (n+3)) (aa (aE (ae 0) (fH (gI 1))) (aa (gI 1) (aa (gI 3) ah)))))):GT) [some (.tup xs),some (nD w),some (nD p)] M=.ok (!(aZ 0 ((p:Int)-1) a&&aZ 1 3 c)) M:=by
 have q1:ak P (n+3) 69 [.tup [a],.int 1,.int 0,.int ((p:Int)-1)] M=.ok (.bl (qE 1 0 ((p:Int)-1) (.tup [a]))) M:=qu h n (d:=.tup [a]) (k:=k+1) (L:=L+1) (many:=1) (show [a].length<=L+1/\∀d∈[a],Th k (L+1) d from{`s,λd hd=>by rw[O7.mp hd];exact ha.mono (OF k) (Nat.le_succ L)}) hL1 0 _
 have q2:=jn h (n+1) (M:=M) hc 1 3;have z1:1<=sz:=ay `d
 refine aM ?_;simp[-iV,i1,il,q1,q2,z1,qE];cases aZ 0 ((p:Int)-1) a<;>cases aZ 1 3 c<;>simp
end
def F7 {M:Mem}:br .notin (.str "turn") (.tup dD) M=some false:=by
 show(iC (.str "turn") dD).map (!·)=_;decide +kernel
def F9 {M:Mem}:br .notin (.str "join") (.tup dD) M=some false:=by
 show(iC (.str "join") dD).map (!·)=_;decide +kernel
def F8 {M:Mem}:br .notin (.str "move") (.tup dD) M=some false:=by
 show(iC (.str "move") dD).map (!·)=_;decide +kernel
def Je {M:Mem}:br .notin (.str "put") (.tup dD) M=some false:=by
 show(iC (.str "put") dD).map (!·)=_;decide +kernel
def D7 {M:Mem}{x y:Bool}:br .ne (.bl x) (.bl y) M=some (x != y):=by cases x<;>cases y<;>rfl
def JL {M:Mem}:br .notin (.int 4) (.tup [.int 4,.int 5]) M=some false/\br .notin (.int 5) (.tup [.int 4,.int 5]) M=some false:=⟨rfl,rfl⟩
section
variable{P:Nat->Option Df}(h:i9 P){M:Mem}{k L:Nat}{d:D}
include h
theorem xY (n:Nat){w p:Nat}{a b c:D}(hL:L+1<=100)(ha:Th k L a)(hb:Th k L b)(hc:Th k L c):ak P (n+4) 70 [.tup [.str "turn",a,b,c],nD w,nD p] M=.ok (.bl (ku w p [a,b,c])) M:=by
 refine av (aA h.is_deed rfl ?_);show ai (bp _ [some (.tup [.str "turn",a,b,c]),some (nD w),some (nD p)] M) _;unfold bp;have z2:2<=sz:=ay `d
 have z4:4<=sz:=ay `d
 have ej:=bq (x:="turn") (y:="join") (b:=false) `k M
 have et:=bq (x:="turn") (y:="turn") (b:=true) `k M
 have ep:=bq (x:="turn") (y:="put") (b:=false) `k M
 have em:=bq (x:="turn") (y:="move") (b:=false) `k M
 refine aG (by kernel_rfl) (aG (by kernel_rfl) ?_)
 have t3:=Ez h n (w:=w) (p:=p) (M:=M) (xs:=[.str "turn",a,b,c]) hL rfl rfl ha hc;cases A:(aZ 0 ((p:Int)-1) a&&aZ 1 3 c) with
 | false =>
   rw[A] at t3;refine bu t3 rfl {?_,rfl};simp only[ku];rcases Bool.and_eq_false_iff.mp A with q|q<;>simp[q]
 | true =>
   rw[A] at t3;simp only[OB] at A;refine aG t3 ?_;have q:=qu h n (M:=M) (many:=w) hb `a 0 ((w:Int)-1)
   refine bu (v:=.bl (gD w b)) (by kernel_rfl) (av (by simp[bw,q];cases b<;>rfl)) {?_,rfl}
   simp[ku,A.1,A.2]
theorem Al (n:Nat){w p:Nat}{a b c:D}(hL:L+1<=100)(ha:Th k L a)(hb:Th k L b)(hc:Th k L c):ak P (n+4) 70 [.tup [.str "put",a,b,c],nD w,nD p] M=.ok (.bl (mI w p [a,b,c])) M:=by
 refine av (aA h.is_deed rfl ?_);show ai (bp _ [some (.tup [.str "put",a,b,c]),some (nD w),some (nD p)] M) _;unfold bp;have z2:2<=sz:=ay `d
 have z4:4<=sz:=ay `d
 have ej:=bq (x:="put") (y:="join") (b:=false) `k M
 have et:=bq (x:="put") (y:="turn") (b:=false) `k M
 have ep:=bq (x:="put") (y:="put") (b:=true) `k M
 have em:=bq (x:="put") (y:="move") (b:=false) `k M
 refine aG (by kernel_rfl) (aG (by kernel_rfl) ?_)
 have t3:=Ez h n (w:=w) (p:=p) (M:=M) (xs:=[.str "put",a,b,c]) hL rfl rfl ha hc;cases A:(aZ 0 ((p:Int)-1) a&&aZ 1 3 c) with
 | false =>
   rw[A] at t3;refine bu t3 rfl {?_,rfl};simp only[mI];rcases Bool.and_eq_false_iff.mp A with q|q<;>simp[q]
 | true =>
   rw[A] at t3;simp only[OB] at A;refine aG t3 ?_;have q:=jn h (n+1) (M:=M) hb 0 ((w:Int)-1);refine aG (by kernel_rfl) (bu (v:=.bl (aZ 0 ((w:Int)-1) b)) (by kernel_rfl) (av (by simp[bw,q])) {?_,rfl})
   simp[mI,A.1,A.2]
theorem ya (n:Nat){w p:Nat}{a b c:D}(hL:L+1<=100)(ha:Th k L a)(hb:Th k L b)(hc:Th k L c):ak P (n+4) 70 [.tup [.str "move",a,b,c],nD w,nD p] M=.ok (.bl (jI w p [a,b,c])) M:=by
 refine av (aA h.is_deed rfl ?_);show ai (bp _ [some (.tup [.str "move",a,b,c]),some (nD w),some (nD p)] M) _;unfold bp;have z2:2<=sz:=ay `d
 have z4:4<=sz:=ay `d
 have ej:=bq (x:="move") (y:="join") (b:=false) `k M
 have et:=bq (x:="move") (y:="turn") (b:=false) `k M
 have ep:=bq (x:="move") (y:="put") (b:=false) `k M
 have em:=bq (x:="move") (y:="move") (b:=true) `k M
 refine aG (by kernel_rfl) (aG (by kernel_rfl) ?_)
 have t3:=Ez h n (w:=w) (p:=p) (M:=M) (xs:=[.str "move",a,b,c]) hL rfl rfl ha hc;cases A:(aZ 0 ((p:Int)-1) a&&aZ 1 3 c) with
 | false =>
   rw[A] at t3;refine bu t3 rfl {?_,rfl};simp only[jI];rcases Bool.and_eq_false_iff.mp A with q|q<;>simp[q]
 | true =>
   rw[A] at t3;simp only[OB] at A;refine aG t3 ?_;have q:=jn h (n+1) (M:=M) hb 0 ((p:Int)-1);refine aG (by kernel_rfl) (aG (by kernel_rfl) ?_)
   cases B:aZ 0 ((p:Int)-1) b with
   | false =>
     rw[B] at q;exact bu (aM (by simp[bw,q])) rfl {by simp[jI,B],rfl}
   | true =>
     rw[B] at q;refine aG (aM (by simp[bw,q])) (bu (by kernel_rfl) rfl {?_,rfl})
     simp[jI,A.1,A.2,B]
theorem yb (n:Nat){w p:Nat}{a b e c:D}(hL:L+1<=100)(ha:Th k L a)(hb:Th k L b)(he:Th k L e)(hc:Th k L c):ak P (n+4) 70 [.tup [.str "join",a,b,e,c],nD w,nD p] M=.ok (.bl (jf w p [a,b,e,c])) M:=by
 refine av (aA h.is_deed rfl ?_);show ai (bp _ [some (.tup [.str "join",a,b,e,c]),some (nD w),some (nD p)] M) _;unfold bp;have z2:2<=sz:=ay `d
 have z4:4<=sz:=ay `d
 have ej:=bq (x:="join") (y:="join") (b:=true) `k M
 have et:=bq (x:="join") (y:="turn") (b:=false) `k M
 have ep:=bq (x:="join") (y:="put") (b:=false) `k M
 have em:=bq (x:="join") (y:="move") (b:=false) `k M
 refine aG (by kernel_rfl) (aG (by kernel_rfl) ?_)
 have t3:=Ez h n (w:=w) (p:=p) (M:=M) (xs:=[.str "join",a,b,e,c]) hL rfl rfl ha hc;cases A:(aZ 0 ((p:Int)-1) a&&aZ 1 3 c) with
 | false =>
   rw[A] at t3;refine bu t3 rfl {?_,rfl};simp only[jf];rcases Bool.and_eq_false_iff.mp A with q|q<;>simp[q]
 | true =>
   rw[A] at t3;simp only[OB] at A;refine aG t3 ?_;have q:=jn h (n+1) (M:=M) hb 0 ((p:Int)-1);refine aG (by kernel_rfl) (aG (by kernel_rfl) ?_)
   cases B:aZ 0 ((p:Int)-1) b with
   | false =>
     rw[B] at q;exact bu (aM (by simp[bw,q])) rfl {by simp[jf,B],rfl}
   | true =>
     rw[B] at q;refine aG (aM (by simp[bw,q])) (aG (by kernel_rfl) ?_)
     have e0:jf w p [a,b,e,c]=jh w e:=by simp[jf,A.1,A.2,B]
     rw[e0];cases e with
     |fn j=>exact absurd he (by cases k<;>exact id)
     |exc y p=>exact absurd he (by cases k<;>exact id)
     | tup ds =>
       have ht:=he.tup;by_cases el:ds.length=w
       ·refine aG (aM (by simp[bw,bI,el])) ?_
        simp only[aF,cb];refine qG (gD w) (ds:=ds) (by simp[bw];exact⟨rfl,rfl⟩) (ay `a) (λd hd=>aM (by
         have q:=qu h n (M:=M) (many:=w) (ht.2 d hd) `a 0 ((w:Int)-1)
         have:qE w 0 ((w:Int)-1) d=gD w d:=by cases d<;>rfl
         rw[this] at q;simp[q])) ?_
        exact{by simp[jh,el],rfl}
       ·have:¬ ((ds.length:Int)=(w:Int)):=`a
        exact bu (aM (by simp[bw,bI,this])) rfl {by simp[jh,el],rfl}
     |_=>exact bu rfl rfl ⟨rfl,rfl⟩
omit h in
theorem zT {w p:Nat}{s:Str}{ds:List D}(hl:ds.length≠3/\ds.length≠4):cF w p s ds=false:=by
 have t:ku w p ds=false:=by
  match ds,hl with
  |[],_=>rfl
  |[_],_=>rfl
  |[_,_],_=>rfl
  |[_,_,_],hl=>simp at hl
  |_::_::_::_::_,_=>rfl
 have j:jf w p ds=false:=by
  match ds,hl with
  |[],_=>rfl
  |[_],_=>rfl
  |[_,_],_=>rfl
  |[_,_,_],_=>rfl
  |[_,_,_,_],hl=>simp at hl
  |_::_::_::_::_::_,_=>rfl
 have m:jI w p ds=false:=by
  match ds,hl with
  |[],_=>rfl
  |[_],_=>rfl
  |[_,_],_=>rfl
  |[_,_,_],hl=>simp at hl
  |_::_::_::_::_,_=>rfl
 have u:mI w p ds=false:=by
  match ds,hl with
  |[],_=>rfl
  |[_],_=>rfl
  |[_,_],_=>rfl
  |[_,_,_],hl=>simp at hl
  |_::_::_::_::_,_=>rfl
 unfold cF;rw[t,j,m,u];split<;>first|rfl|(split<;>first|rfl|(split<;>first|rfl|(split<;>rfl)))
theorem kI (n:Nat){w p:Nat}{s:Str}{xs:List D}{bj:Bool}(hs:br .notin (.str s) (.tup dD) M=some false)(ej:br .eq (.str s) (.str "join") M=some bj)(hl:xs.length=3/\bj=true\/xs.length=4/\bj=false):ak P (n+4) 70 [.tup (.str s::xs),nD w,nD p] M=.ok (.bl false) M:=by
 refine av (aA h.is_deed rfl ?_);show ai (bp _ [some (.tup (.str s::xs)),some (nD w),some (nD p)] M) _;unfold bp;have z2:2<=sz:=ay `d
 have z4:4<=sz:=ay `d
 rcases hl with⟨e,rfl⟩|⟨e,rfl⟩
 ·refine aG (aM (by simp[bI,e,JL.1,z2])) (bu (aM ?_) rfl ⟨rfl,rfl⟩)
  simp[bw,hs,z4,ej,D7,e]
 ·refine aG (aM (by simp[bI,e,JL.2,z2])) (bu (aM ?_) rfl ⟨rfl,rfl⟩)
  simp[bw,hs,z4,ej,D7,e]
theorem Am (n:Nat){w p:Nat}(hi:bI .tuple d=some false):ak P (n+4) 70 [d,nD w,nD p] M=.ok (.bl false) M:=by
 refine av (aA h.is_deed rfl ?_);show ai (bp _ [some d,some (nD w),some (nD p)] M) _;unfold bp;exact bu (aM (by simp[hi])) rfl ⟨rfl,rfl⟩
theorem zv (n:Nat){w p:Nat}(hd:Th k L d)(hk:k<=60)(hL:L+1<=100):ak P (n+4) 70 [d,nD w,nD p] M=.ok (.bl (ff w p d)) M:=by
 cases d with
 |fn j=>exact absurd hd (by cases k<;>exact id)
 |exc y p=>exact absurd hd (by cases k<;>exact id)
 | tup xs =>
   have ht:=hd.tup;by_cases hl:xs.length≠4/\xs.length≠5
   ·rw[An h n hl];cases xs with
    |nil=>rfl
    | cons x ds =>
      simp at hl;cases x with
      |str s=>show _=Res.ok (D.bl (cF w p s ds)) M;rw[zT {`a,`a}]
      |_=>rfl
   ·have hl:xs.length=4\/xs.length=5:=`a
    cases xs with
    |nil=>simp at hl
    | cons x ds =>
      have hx:=ht.2 x OT;have hds:∀d∈ds,Th k L d:=λd hd=>ht.2 d (ON _ hd);have hl:ds.length=3\/ds.length=4:=by simp at hl;omega
      by_cases hn:(dD.any λy=>dJ y x)=false
      ·rw[xZ h n hx hk hl hn];cases x with
       | str s =>
         show _=Res.ok (D.bl (cF w p s ds)) M;have q:∀z:Str,D.str z∈dD->¬ s=z:=λz hz e=>by
          subst e;rw[List.any_eq_false] at hn;exact hn _ hz (by simp[EG])
         rw[uw (q _ `s) (q _ `s) (q _ `s) (q _ `s)]
       |_=>rfl
      ·have hn:(dD.any λy=>dJ y x)=true:=(Bool.not_eq_false _).mp hn;obtain⟨z,hz,e⟩:=List.any_eq_true.mp hn;have hx:∃s:Str,x=.str s/\D.str s∈dD:=by
        simp only[dD,OL,Pa,or_false] at hz;cases x with
        |str s=>rcases hz with rfl|rfl|rfl|rfl<;>(rw[EG,beq_iff_eq] at e;subst e;exact{_,rfl,`s})
        |_=>rcases hz with rfl|rfl|rfl|rfl<;>cases e
       obtain⟨s,rfl,hs⟩:=hx;show _=Res.ok (D.bl (cF w p s ds)) M;simp only[dD,OL,Pa,or_false,D.str.injEq] at hs
       match ds,hds,hl with
       | [a, b, c], hds, _ =>
         simp only[OL,Pa,or_false,forall_eq_or_imp,forall_eq] at hds;rcases hs with rfl|rfl|rfl|rfl
         ·rw[mO];exact xY h n hL hds.1 hds.2.1 hds.2.2
         ·rw[mM];exact kI h n F9 (bq `k M) (.inl ⟨rfl,rfl⟩)
         ·rw[mL];exact ya h n hL hds.1 hds.2.1 hds.2.2
         ·rw[mK];exact Al h n hL hds.1 hds.2.1 hds.2.2
       | [a, b, e, c], hds, _ =>
         simp only[OL,Pa,or_false,forall_eq_or_imp,forall_eq] at hds;rcases hs with rfl|rfl|rfl|rfl
         ·rw[mO];exact kI h n F7 (bq `k M) (.inr ⟨rfl,rfl⟩)
         ·rw[mM];exact yb h n hL hds.1 hds.2.1 hds.2.2.1 hds.2.2.2
         ·rw[mL];exact kI h n F8 (bq `k M) (.inr ⟨rfl,rfl⟩)
         ·rw[mK];exact kI h n Je (bq `k M) (.inr ⟨rfl,rfl⟩)
       |[],_,hl=>simp at hl
       |[_],_,hl=>simp at hl
       |[_,_],_,hl=>simp at hl
       |_::_::_::_::_::_,_,hl=>simp at hl
 |_=>exact Am h n rfl
theorem kz (n:Nat)(hd:Th k L d)(hk:k<=60)(hL:L+1<=100):ak P (n+5) 71 [d] M=.ok (.bl (eT d)) M:=by
 refine av (aA h.is_machine rfl ?_);show ai (fk _ [some d] M) _;unfold fk;by_cases hn:fW 3 d=false
 ·rw[uN hn];cases d with
  |fn j=>exact absurd hd (by cases k<;>exact id)
  |exc y p=>exact absurd hd (by cases k<;>exact id)
  | tup xs =>
    have:¬ ((xs.length:Int)=3):=by simp[fW] at hn;omega
    exact bu (aM (by simp[bI,this])) rfl ⟨rfl,rfl⟩
  |_=>exact bu rfl rfl ⟨rfl,rfl⟩
 ·match d,hd,hn with
  | .tup [a, b, c], hd, _ =>
    have ht:=hd.tup.2;simp only[OL,Pa,or_false,forall_eq_or_imp,forall_eq] at ht;have b1:=jn h (n+2) (M:=M) ht.1 2 4;have b2:=jn h (n+2) (M:=M) ht.2.1 1 2;show ai _ (iW λx M'=>x=.bl (aZ 2 4 a&&(aZ 1 2 b&&(fX c&&(pW c).all (ff (eE a) (eE b)))))/\M'=M);cases c1:aZ 2 4 a with
    | false =>
      rw[c1] at b1;exact bu (aM (by simp[bI,bw,b1])) rfl ⟨rfl,rfl⟩
    | true =>
      rw[c1] at b1;refine aG (aM (by simp[bI,bw,b1])) ?_
      cases c2:aZ 1 2 b with
      | false =>
        rw[c2] at b2;exact bu (aM (by simp[bw,b2])) rfl ⟨rfl,rfl⟩
      | true =>
        rw[c2] at b2;obtain⟨ea,_,_⟩:=nV c1 `d
        obtain⟨eb,_,_⟩:=nV c2 `d
        by_cases hcc:∃ds,c=.tup ds
        ·obtain⟨ds,rfl⟩:=hcc;have hc:=ht.2.2.tup;cases lb:fX (.tup ds) with
         | false =>
           refine bu (aM ?_) rfl ⟨rfl,rfl⟩;simp[fX] at lb;simp[bw,b2,bI];omega
         | true =>
           refine aG (aM ?_) ?_
           ·simp[fX] at lb;simp[bw,b2,bI];omega
           ·simp only[aF,cb];refine qG (ff (eE a) (eE b)) (ds:=ds) (by simp[bw];exact⟨rfl,rfl⟩) (ay `a) (λd hd=>aM (by
             have q:=zv h n (w:=eE a) (p:=eE b) (M:=M) (hc.2 d hd) hk hL;rw[<- ea,<- eb] at q;simp[bw,q])) ?_
            exact{by simp[pW],rfl}
        ·have e1:fX c=false:=by cases c<;>first|rfl|exact absurd {_,rfl} hcc
         have e2:=uU ht.2.2 (t:=.tuple) (.inr ⟨hcc,rfl⟩);exact bu (aM (by simp[bw,b2,e2])) rfl {by simp[e1],rfl}
  |.tup [],_,hn=>exact absurd rfl hn
  |.tup [_],_,hn=>exact absurd rfl hn
  |.tup [_,_],_,hn=>exact absurd rfl hn
  |.tup (_::_::_::_::r),_,hn=>exact absurd (by simp[fW]) hn
  |.non,_,hn=>exact absurd rfl hn
  |.bl _,_,hn=>exact absurd rfl hn
  |.int _,_,hn=>exact absurd rfl hn
  |.str _,_,hn=>exact absurd rfl hn
  |.lst _,_,hn=>exact absurd rfl hn
  |.frz _,_,hn=>exact absurd rfl hn
  |.cell _,_,hn=>exact absurd rfl hn
  |.fn _,_,hn=>exact absurd rfl hn
  |.exc _ _,_,hn=>exact absurd rfl hn
end
structure HasT0 (P:Nat->Option Df):Prop where
 but:P 64=some {2,4,f6}
 any:P 65=some {1,1,f9}
structure HasT (P:Nat->Option Df):Prop extends HasT0 P where
 signed:P 66=some {2,3,gO}
 bent:P 72=some {3,9,jm}
instance coeHasT {P:Nat->Option Df}:Coe (HasT P) (HasT0 P):=⟨HasT.toHasT0⟩
section
variable{Z:Env}{M:Mem}{a b lo hi:GE}{k:D->Mem->Prop}{kw:Walk->Mem->Prop}
@[simp] theorem Hg:ai (qc a Z M) kw↔ai (a Z M) λx M=>∃z,x=.str z/\kw (λ_=>some (signs z)) M:=by
 simp only[qc,bo];refine iff_of_eq ?_;congr 1;funext x M;cases x<;>simp
def JU {hl hh:Bool}:ai (nK hl hh a lo hi Z M) k↔ai (a Z M) λx M=>ai (lo Z M) λl M=>ai (hi Z M) λh M=>cH hl l=true/\cH hh h=true/\∃z i j,x=.str z/\z.cps.size<=sz/\aS z.cps.size 0 l=some i/\aS z.cps.size z.cps.size h=some j/\k (.str (iX z i j)) M:=by
 simp only[nK,bo];refine iff_of_eq ?_
 congr 1;funext x M;congr 1;funext l M;congr 1;funext h M
 cases cH hl l<;>cases cH hh h<;>simp;cases x<;>simp;rename_i z;by_cases hz:z.cps.size<=sz
 ·simp[hz];cases aS z.cps.size 0 l<;>cases aS z.cps.size z.cps.size h<;>simp
 ·simp[hz]
end
noncomputable def gQ (L:Nat)(z:Str):Prop:=z.cps.size<=L/\z.cps.all (· < 0x110000)=true
def gQ.th {n L:Nat}{z:Str}(h:gQ L z):Th n L (.str z):=by cases n<;>exact h
def AQ {L:Nat}{z:Str}{i j:Nat}(h:gQ L z):gQ (j-i) (iX z i j)/\(iX z i j).cps.size<=z.cps.size-i:=by
 refine{{?_,?_},?_}
 ·simp[iX,cut];omega
 ·have h2:=h.2;rw[<- Array.all_toList,OJ] at h2;simp only[iX];rw[List.all_toArray,OJ];intro x hx;exact h2 x (Ql (Pw hx))
 ·simp[iX,cut];omega
def add_str {m:Bool}{x y:Str}{M:Mem}{k:D->Mem->Prop}(h:x.cps.size+y.cps.size<=sz):ai (fY m .add (.str x) (.str y) M) k↔k (.str {x.cps++y.cps}) M:=by
 show ai (if x.cps.size+y.cps.size<=sz then Res.ok (D.str {x.cps++y.cps}) M else .bad) k↔_;rw[if_pos h];exact PL
abbrev Mr:Str:=" !\"#$&'()*+,-./0123456789:;<=>?@ABCDEFGHIJKLMNOPQRSTUVWXYZ[\\]^_`"
abbrev Mq:Str:="abcdefghijklmnopqrstuvwxyz{|}~\t\n"
def allSigns:Str:={Mr.cps++Mq.cps}
def G6 {M:Mem}{k:D->Mem->Prop}:ai (fY false .add (.str Mr) (.str Mq) M) k↔k (.str allSigns) M:=add_str (OI `k (ay (n:=200) `d))
def jo:(0<(signs allSigns).length/\(signs allSigns).length<=200)/\allSigns.cps.size<=200/\((signs allSigns).all λd=>match d with|.str z=>!jZ z ""&&z.cps.size==1&&z.cps.all (· < 0x110000)|_=>false)=true:=`k
def sign_is {d:D}(h:d∈signs allSigns):∃z:Str,d=.str z/\jZ z ""=false/\gQ 1 z:=by
 have q:=OJ.mp jo.2.2 d h;cases d with
 | str z =>
   simp only[OB,Qx,beq_iff_eq] at q;exact{z,rfl,q.1.1,by rw[q.1.2];exact OF 1,q.2}
 |_=>cases q
section
variable{P:Nat->Option Df}(hp_:HasP0 P)(ht_:HasT0 P){M:Mem}
include hp_ ht_
theorem HB (n:Nat){p B:Nat}(hp:aJ M p B)(hB:B<=900000):ai (ak P (n+4) 65 [.cell p] M) λd M'=>∃z:Str,d=.str z/\gQ 1 z/\aJ M' p (B+1)/\a7 p M M':=by
 refine aA ht_.any rfl ?_;show ai (f9 _ [some (.cell p)] M) _;simp only[f9,aF,cb,fx,aY,bh,aT,cQ,O9,Pm,Pp,exists_eq_left'];refine aA ht_.but rfl ?_;show ai (f6 _ [some (.cell p),some (.str ""),none,none] M) _;simp only[f6,aF,mE,fu,dI,cb,cQ,dv,aT,O9,Pb,Pm,Pp,exists_eq_left',Qt,Qu];refine G6.mpr ?_;simp only[gj,Hg,aT,O9,Pb,Pm,Pp,exists_eq_left',D.str.injEq];refine mY (λ_=>true) (λd=>d) (ds:=signs allSigns) (ay (by have:=jo.1.2;omega)) rfl (λd hd=>?_) ?_
 ·obtain⟨z,rfl,hz,_⟩:=sign_is hd;refine{_,rfl,aM ?_,λ_=>rfl};simp;show some (!jZ z "")=_;rw[hz];rfl
 have ef:(List.filter (λ_=>true) (signs allSigns)).map (λd=>d)=signs allSigns:=`s
 rw[ef];refine bx.mpr {ay (by have:=jo.1.2;omega),?_}
 simp only[dI,aF,cb,fK,fx,aY,bh,dC,aT,O9,Pb,Pm,Pp,exists_eq_left',Qt,Qu,Gh];refine tk hp_ n hp `a jo.1.1 (by have:=jo.1.2;omega) λv M' hv q kk=>?_
 obtain⟨z,e,_,hz⟩:=sign_is (Px hv);refine{.str z,?_,z,rfl,hz,q,kk};show(bw (signs allSigns).length (v:Int)).bind (λj=>(signs allSigns)[j]?)=_;rw[eD hv];simp[hv,e]
end
section
variable{P:Nat->Option Df}(hp_:HasP P)(ht_:HasT P){M:Mem}
include hp_ ht_
omit hp_ ht_ in
theorem AY {A B:Nat}{x y:Str}(hx:gQ A x)(hy:gQ B y):gQ (x.cps.size+y.cps.size) {x.cps++y.cps}:=by
 refine{`s,?_}
 have h1:=hx.2;have h2:=hy.2;simp only[Array.all_append,h1,h2,Bool.and_self]
theorem zt (n:Nat){p B L:Nat}{z:Str}(hz:gQ L z)(hL:L<=100)(hp:aJ M p B)(hB:B<=800000):ai (ak P (n+5) 66 [.cell p,.str z] M) λd M'=>∃z':Str,d=.str z'/\gQ (L+1) z'/\aJ M' p (B+3)/\a7 p M M':=by
 refine aA ht_.signed rfl ?_;show ai (gO _ [some (.cell p),some (.str z),none] M) _;have zl:=hz.1;have zsz:z.cps.size<=sz:=ay `a
 simp only[gO,aF,mE,fu,dI,cb,fx,aY,bh,cQ,dv,aT,dC,JU,O9,Pb,Pm,Pp,exists_eq_left',Qt,Qu];have el:∀{k:D->Mem->Prop},k (.int z.cps.size) M->ai (eY .len [.str z] M) k:=λhk=>by
  show ai (if z.cps.size<=sz then Res.ok (D.int z.cps.size) M else .bad) _;rw[if_pos zsz];exact hk
 refine el ?_;rw[iJ];rw[show((z.cps.size:Int)+1)=((z.cps.size+1:Nat):Int) by omega]
 refine tk hp_ (n+2) hp `a `a `a λat_ M1 hat q1 k1=>?_
 refine{rfl,rfl,z,0,at_,rfl,zsz,rfl,?_,?_}
 ·show some (if (at_:Int)<0 then _ else min (at_:Int).toNat z.cps.size)=_;rw[if_neg `a]
  congr 1
  simp;omega
 refine aH (HB hp_ ht_ (M:=M1) (B:=B+1) (p:=p) n q1 `a) λd M2 ⟨y,ed,hy,q2,k2⟩=>?_
 subst ed;have c1:=AQ (i:=0) (j:=at_) hz;have hs1:=AY c1.1 hy;have s1:=c1.1.1;have s2:=hy.1;have w1:(iX z 0 at_).cps.size+y.cps.size<=sz:=ay `a
 refine(add_str w1).mpr ?_;refine tk hp_ (n+2) (many:=2) q2 `a `d `d λv M3 hv q3 k3=>?_
 rw[iJ];rw[show((at_:Int)+(v:Int))=((at_+v:Nat):Int) by omega]
 refine{rfl,rfl,z,min (at_+v) z.cps.size,z.cps.size,rfl,zsz,?_,rfl,?_}
 ·show some (if ((at_+v:Nat):Int)<0 then _ else min ((at_+v:Nat):Int).toNat z.cps.size)=_;rw[if_neg `a]
  congr 1
 have c2:=AQ (i:=min (at_+v) z.cps.size) (j:=z.cps.size) hz;have hs2:=AY hs1 c2.1;have s3:=c2.2;have s4:=hs1.1;simp only at s4;have w2:((iX z 0 at_).cps++y.cps).size+(iX z (min (at_+v) z.cps.size) z.cps.size).cps.size<=sz:=ay (by simp only[Array.size_append] at s4 ⊢;omega)
 refine(add_str w2).mpr ?_;refine{_,rfl,{?_,hs2.2},q3,(k1.trans k2).trans k3};have:=hs2.1;simp only[Array.size_append] at this ⊢;omega
end
noncomputable def eX:List D:=[.non,.bl true,.bl false,.str "",.str "turn",.str "join",.str "move",.str "put",.str "Turn",.tup [],.lst [],.int (10^20),.int (-1),.int 0,.int 1,.int 4,.tup [.int 0],.lst [.int 0],.str "0",.int 7]
def Aa {x:D}(h:x∈eX):Th 1 4 x:=by
 have st:∀z:Str,(z.cps.size<=4&&z.cps.all (· < 0x110000))=true->Th 1 4 (.str z):=λz hz=>by
  simp only[OB,decide_eq_true_eq] at hz;exact hz
 simp only[eX,OL,Pa,or_false] at h;rcases h with rfl|rfl|rfl|rfl|rfl|rfl|rfl|rfl|rfl|rfl|rfl|rfl|rfl|rfl|rfl|rfl|rfl|rfl|rfl|rfl
 all_goals first
  |trivial
  |exact st _ `k
  |exact{`d,λd hd=>absurd hd Pa}
  |exact{`d,λd hd=>by rw[O7.mp hd];trivial}
def v9 {lo hi:D}{hl hh:Bool}{xs:List D}{M:Mem}{k:D->Mem->Prop}(h1:cH hl lo=true)(h2:cH hh hi=true)(hk:∀i j,k (.tup (cut xs i j)) M):ai (fq false (.tup xs) lo hi M) k:=by
 have q:∀{n d:Nat}{b:Bool}{x:D},cH b x=true->∃i,aS n d x=some i:=λ{n d b x} h=>by
  cases b<;>cases x<;>first|exact{_,rfl}|cases h
 obtain⟨i,e1⟩:=q (n:=xs.length) (d:=0) h1;obtain⟨j,e2⟩:=q (n:=xs.length) (d:=xs.length) h2;show ai (match aS xs.length 0 lo,aS xs.length xs.length hi with|some l,some h=>Res.ok (D.tup (cut xs l h)) M|_,_=>.bad) k
 rw[e1,e2];exact hk i j
def jW {xs:List D}{i j:Nat}:(cut xs i j).length<=xs.length/\(cut xs i j).length<=j/\∀d∈cut xs i j,d∈xs:=by
 refine{?_,?_,λd hd=>Ql (Pw hd)}
 ·unfold cut;rw[PU,List.length_drop];omega
 ·unfold cut;rw[PU];omega
def KS {xs:List D}{M:Mem}{k:D->Mem->Prop}(hk:∀ys:List D,ys.length<=1->(∀d∈ys,d∈xs)->k (.tup ys) M):ai (fq false (.tup xs) .non (.int 1) M) k:=by
 show ai (Res.ok (D.tup (cut xs 0 (min 1 xs.length))) M) k;exact hk _ (OI jW.2.1 `a) jW.2.2
def HE {xs:List D}{a:Nat}{M:Mem}{k:D->Mem->Prop}(ha:a<xs.length)(hk:k (.tup (xs.take a)) M):ai (fq false (.tup xs) .non (nD a) M) k:=by
 show ai (Res.ok (D.tup (cut xs 0 (if (a:Int)<0 then _ else min (a:Int).toNat xs.length))) M) k;rw[if_neg `a]
 have:cut xs 0 (min (a:Int).toNat xs.length)=xs.take a:=by
  unfold cut;rw[show min (a:Int).toNat xs.length-0=a by simp;omega,List.drop_zero]
 rw[this];exact hk
def BR {xs:List D}{a:Nat}{M:Mem}{k:D->Mem->Prop}(ha:a<xs.length)(hk:k (.tup (xs.drop (a+1))) M):ai (fq false (.tup xs) (.int ((a:Int)+1)) .non M) k:=by
 show ai (Res.ok (D.tup (cut xs (if (a:Int)+1<0 then _ else min ((a:Int)+1).toNat xs.length) xs.length)) M) k;rw[if_neg `a]
 have:cut xs (min ((a:Int)+1).toNat xs.length) xs.length=xs.drop (a+1):=by
  unfold cut;rw[show min ((a:Int)+1).toNat xs.length=a+1 by omega,Qa `s]
 rw[this];exact hk
def Th.tup_of {k L:Nat}{xs:List D}(hl:xs.length<=L)(h:∀d∈xs,Th k L d):Th (k+1) L (.tup xs):=⟨hl,h⟩
def Th.lst_of {k L:Nat}{xs:List D}(hl:xs.length<=L)(h:∀d∈xs,Th k L d):Th (k+1) L (.lst xs):=⟨hl,h⟩
noncomputable def oW (c:Call):GS:=(ag (aQ (gW (ax (bL .str (ae 1))) (ax (aL .lt (ae 3) (gI 3)))) (ag (aK (aq 66 c (aa (ae 0) (aa (ae 1) ah)))) aj) aj) (ag (aK (aE (ae 7) (ae 4))) aj))
section
variable{P:Nat->Option Df}(hp_:HasP P)(ht_:HasT P)(hw_:i9 P){M:Mem}
include hp_ ht_ hw_
theorem A4 (n:Nat){k L p B kind pick:Nat}{d:D}{x2 x5 x6 x8:Option D}(hd:Th k L d)(hk:k<=50)(h6:6<=L)(hL:L<=50)(hp:aJ M p B)(hB:B<=800000)(hpk:pick<20) :
 ai (oW (ak P (n+5)) [some (.cell p),some d,x2,some (nD kind),some (nD pick),x5,x6,some (.lst eX),x8] M) (iW λd' M'=>Th (k+1) (L+1) d'/\aJ M' p (B+3)/\a7 p M M'):=by
 have fin:ai (ag (aK (aE (ae 7) (ae 4))) aj [some (.cell p),some d,x2,some (nD kind),some (nD pick),x5,x6,some (.lst eX),x8] M) (iW λd' M'=>Th (k+1) (L+1) d'/\aJ M' p (B+3)/\a7 p M M'):=by
  have hl:pick<eX.length:=hpk;exact b7 (v:=eX[pick]) (av (by simp[-Gn,nI hl])) {(Aa (Px hl)).mono `a `a,hp.mono `a,.refl}
 unfold oW;cases d with
 |fn j=>exact absurd hd (by cases k<;>exact id)
 |exc y p=>exact absurd hd (by cases k<;>exact id)
 | str z =>
   have hz:gQ L z:=by cases k<;>exact hd
   by_cases c:(kind:Int)<3
   ·simp only[aF,ig,KG,eO,u7,aT,eU,cQ,O9,Pb,Pm,Pp,exists_eq_left',cb,fx,aY,bh];refine{true,rfl,true,rfl,?_};rw[if_pos rfl];refine{_,rfl,_,rfl,?_};rw[decide_eq_true c,if_pos rfl];exact aH (zt hp_ ht_ n hz `a hp hB) λd' M' ⟨z',e,h1,h2,h3⟩=>{by rw[e];exact h1.th.mono (OF _) (OF _),h2,h3}
   ·refine aG (aM ?_) fin;simp[bI];omega
 |_=>exact aG rfl fin
omit hp_ ht_ hw_ in
theorem rX {k:Fl->Mem->Prop}{rest:GS}{M:Mem}{x0 x1 x2 x3 x4 x5 x6 x7 x8:Option D}(hk:ai (rest [x0,x1,x2,x3,x4,x5,x6,some (.lst eX),x8] M) k) :
 ai (ag (aI (.one 7) (aO false (aa gN (aa u3 (aa wN (aa (gS "") (aa (gS "turn") (aa (gS "join") (aa (gS "move") (aa (gS "put") (aa (gS "Turn") (aa (bH ah) (aa (aO false ah) (aa (au false .pow (gI 10) (gI 20)) (aa (fH (gI 1)) (aa (gI 0) ah)))))))))))))))) (ag (aI (.one 7) (au false .add (ae 7) (aO false (aa (gI 1) (aa (gI 4) (aa (bH (aa (gI 0) ah)) (aa (aO false (aa (gI 0) ah)) (aa (gS "0") (aa (gI 7) ah))))))))) rest) [x0,x1,x2,x3,x4,x5,x6,x7,x8] M) k:=by
 simp only[aF,fu];have e:((aO false (aa gN (aa u3 (aa wN (aa (gS "") (aa (gS "turn") (aa (gS "join") (aa (gS "move") (aa (gS "put") (aa (gS "Turn") (aa (bH ah) (aa (aO false ah) (aa (au false .pow (gI 10) (gI 20)) (aa (fH (gI 1)) (aa (gI 0) ah))))))))))))))):GE) [x0,x1,x2,x3,x4,x5,x6,x7,x8] M=.ok (.lst (eX.take 14)) M:=`r
 rw[e];show ai (ag _ rest [x0,x1,x2,x3,x4,x5,x6,some (.lst (eX.take 14)),x8] M) k;simp only[aF,fu];have e2:((au false .add (ae 7) (aO false (aa (gI 1) (aa (gI 4) (aa (bH (aa (gI 0) ah)) (aa (aO false (aa (gI 0) ah)) (aa (gS "0") (aa (gI 7) ah)))))))):GE) [x0,x1,x2,x3,x4,x5,x6,some (.lst (eX.take 14)),x8] M=.ok (.lst eX) M:=`r
 rw[e2];exact hk
noncomputable def jX (c:Call):GS:=ag (aQ (ax (bL .tuple (ae 1))) (ag (aI (.one 8) (aO false (aa (aX (.list false) (aa (ae 1) ah)) (aa (au false .add (ae 1) (cq false false true (ae 1) gN (gI 1))) (aa (cq false false true (ae 1) gN (fH (gI 1))) (aa (oS false (ae 1)) (aa (au false .add (ae 1) (bH (aa (ae 5) ah))) (aa (cq false true false (ae 1) (gI 1) gN) (aa (bH (aa (ae 1) ah)) ah))))))))) (ag (aK (aE (au false .add (ae 8) (aO false (aa (aE (ae 7) (ae 4)) ah))) (ae 3))) aj)) aj) (ag (aQ (ax (aq 67 c (aa (ae 1) ah))) (ag (aK (aE (aO false (aa (au false .add (ae 1) (gI 1)) (aa (au false .sub (ae 1) (gI 1)) (aa (au false .sub (gI 0) (ae 1)) (aa (ae 5) (aa (ae 5) (aa (aL .eq (ae 1) (gI 1)) (aa (au false .sub (gI 3) (ae 1)) (aa (aE (ae 7) (ae 4)) ah))))))))) (ae 3))) aj) aj) (oW c))
theorem De (n:Nat){k L p B kind pick:Nat}{num:Int}{d:D}{x2 x6 x8:Option D}(hd:Th k L d)(hk:k<=50)(h6:6<=L)(hL:L<=50)(hp:aJ M p B)(hB:B<=800000)(hkd:kind<8)(hpk:pick<20) :
 ai (jX (ak P (n+5)) [some (.cell p),some d,x2,some (nD kind),some (nD pick),some (.int num),x6,some (.lst eX),x8] M) (iW λd' M'=>Th (k+1) (L+1) d'/\aJ M' p (B+3)/\a7 p M M'):=by
 have hl:pick<eX.length:=hpk;have ho:Th (k+1) (L+1) eX[pick]:=(Aa (Px hl)).mono `a `a
 have pick8:∀{xs:List D},xs.length=8->(∀x∈xs,Th (k+1) (L+1) x)->∃x,bZ (.lst xs) (nD kind) M=some x/\Th (k+1) (L+1) x:=λ{xs} h8 h=>{_,nI `a,h _ (Px _)}
 unfold jX;have tail:=A4 hp_ ht_ hw_ n (x2:=x2) (x5:=some (.int num)) (x6:=x6) (x8:=x8) (kind:=kind) hd hk h6 hL hp hB hpk;cases d with
 |fn j=>exact absurd hd (by cases k<;>exact id)
 |exc y p=>exact absurd hd (by cases k<;>exact id)
 | tup xs =>
   refine iy (aM (by simp[bI])) ?_
   simp only[aF,fu,cb,jM,aY,bh,aT,dC,dv,mi,gL,Ew,LF,cQ,fK,O9,Pb,Pm,Pp,exists_eq_left',Qt,Qu];have hx:=hd.tup;have hxl:=hx.1;have hx1:∀d∈xs,Th k (L+1) d:=λd hd=>(hx.2 d hd).mono (OF _) `a
   have up:∀{ys:List D},ys.length<=L+1->(∀d∈ys,d∈xs\/Th k (L+1) d)->Th (k+1) (L+1) (.tup ys):=λ{ys} hl h=>.tup_of hl λd hd=>by
    rcases h d hd with z|z
    ·exact hx1 d z
    ·exact z
   refine uO.mpr (bx.mpr {ay `a,rfl,rfl,KS λys y1 y2=>?_})
   refine lJ.mpr {ay `o,1,rfl,rfl,rfl,v9 (hl:=false) (hh:=true) rfl rfl λi2 j2=>Fy.mpr {ay `s,lJ.mpr {ay `o,rfl,rfl,v9 (hl:=true) (hh:=false) rfl rfl λi3 j3=>{ay `s,bx.mpr {ay `s,?_}}}}}
   obtain⟨x,e1,e2⟩:=pick8 (xs:=[.lst xs,.tup (xs++ys),.tup (cut xs i2 j2),.tup xs.reverse,.tup (xs++[.int num]),.tup (cut xs i3 j3),.tup [.tup xs]]++[eX[pick]]) rfl (λx hx'=>by
    simp only[QC,Qg,OL,Pa,or_false] at hx';rcases hx' with rfl|rfl|rfl|rfl|rfl|rfl|rfl|rfl
    ·exact .lst_of `a hx1
    ·exact up `o λd hd=>(Pe.mp hd).elim .inl λz=>.inl (y2 d z)
    ·exact up (OI jW.1 `a) λd hd=>.inl (jW.2.2 d hd)
    ·exact up `o λd hd=>.inl (List.mem_reverse.mp hd)
    ·exact up `o λd hd=>by
      rcases Pe.mp hd with z|z
      ·exact .inl z
      ·rw[O7.mp z];exact .inr (by cases k<;>trivial)
    ·exact up (OI jW.1 `a) λd hd=>.inl (jW.2.2 d hd)
    ·exact .tup_of `s λd hd'=>by rw[O7.mp hd'];exact hd.mono (OF _) `a
    ·exact ho)
   refine b7 (v:=x) (av ?_) {e2,hp.mono `a,.refl}
   simp only[fK,dv,aT,jM,aY,bh];exact{_,rfl,_,rfl,_,rfl,_,nI hl,bx.mpr {ay `s,m9.mpr (bx.mpr {ay `s,_,rfl,x,e1,rfl,rfl})}}
 | int i =>
   have qw:=ky hw_ (n+4) (M:=M) hd;refine aG (aM (by simp[bI])) (iy (aM (by simp[qw,pz])) ?_)
   simp only[aF,cb,jM,aY,bh,aT,dv,cQ,fK,eU,O9,Pb,Pm,Pp,exists_eq_left',iJ,mB];refine{_,rfl,_,nI hl,bx.mpr {ay `s,?_}}
   obtain⟨x,e1,e2⟩:=pick8 (xs:=[.int (i+1),.int (i-1),.int (0-i),.int num,.int num,.bl (i==1),.int (3-i),eX[pick]]) rfl (λx hx=>by
    simp only[OL,Pa,or_false] at hx;rcases hx with rfl|rfl|rfl|rfl|rfl|rfl|rfl|rfl
    all_goals first|exact ho|trivial)
   exact{x,e1,e2,hp.mono `a,.refl}
 | _ =>
   have qw:=ky hw_ (n+4) (M:=M) hd;exact aG (aM (by simp[bI])) (aG (aM (by simp[qw,pz])) tail)
omit hp_ ht_ hw_ in
theorem Cm {k L:Nat}{xs:List D}(h:Th k L (.tup xs))(hk:k<=60):br .ne (.tup xs) (.tup []) M=some (!xs.isEmpty):=by
 refine iY (h.mono (n':=64) `a (OF L)).pure rfl ?_
 cases xs<;>rfl
theorem sI (n deep:Nat){k L p B:Nat}{d:D}(hd:Th k L d)(hk:k<=50)(h6:6<=L)(hL:L<=50)(hp:aJ M p B)(hB:B<=700000)
 (ih:0<deep->∀{k' B':Nat}{d':D}{M':Mem},Th k' L d'->k'<=50->aJ M' p B'->B'<=B+4->ai (ak P (n+deep+5) 72 [.cell p,d',.int ((deep:Int)-1)] M') λe M''=>Th (k'+1) (L+1) e/\aJ M'' p (B'+6*deep)/\a7 p M' M'') :
 ai (ak P (n+deep+6) 72 [.cell p,d,nD deep] M) λd' M'=>Th (k+1) (L+1) d'/\aJ M' p (B+6*(deep+1))/\a7 p M M':=by
 refine aA ht_.bent rfl ?_;show ai (ag _ (ag _ (ag _ (ag (aQ _ _ aj) (ag _ (ag _ (jX (ak P (n+deep+5)))))))) [some (.cell p),some d,some (nD deep),none,none,none,none,none,none] M) _;simp only[aF,fu,dI,fx,aY,bh,cQ,aT,dv,O9,Pb,Pm,Pp,exists_eq_left',Qt,Qu];refine tk hp_ (n+deep+3) (many:=8) hp `a `d `d λkind M1 hkd q1 k1=>?_
 refine tk hp_ (n+deep+3) (many:=20) q1 `a `d `d λpick M2 hpk q2 k2=>?_
 refine tk hp_ (n+deep+3) (many:=9) q2 `a `d `d λnum M3 hnm q3 k3=>?_
 rw[mB];have K3:=(k1.trans k2).trans k3;have mid:ai (ag _ (ag _ (jX (ak P (n+deep+5)))) [some (.cell p),some d,some (nD deep),some (nD kind),some (nD pick),some (.int ((num:Int)-2)),none,none,none] M3) (iW λd' M'=>Th (k+1) (L+1) d'/\aJ M' p (B+6*(deep+1))/\a7 p M M'):=
  rX (aH (De hp_ ht_ hw_ (n+deep) hd hk h6 hL q3 `a hkd hpk) λfl M' hf=>by
   cases fl with
   |next Z=>exact{hf.1,hf.2.1.mono `a,K3.trans hf.2.2}
   |ret e=>exact{hf.1,hf.2.1.mono `a,K3.trans hf.2.2}
   |exc x Z=>exact hf.elim)
 refine aF.mp ?_;cases d with
 |fn j=>exact absurd hd (by cases k<;>exact id)
 |exc y p=>exact absurd hd (by cases k<;>exact id)
 | tup xs =>
   have ne:=Cm (M:=M3) hd `a
   by_cases hc:xs≠[]/\0<deep/\4<pick
   ·obtain⟨c1,c2,c3⟩:=hc;have lx:0<xs.length:=List.length_pos_iff.mpr c1;have ei:xs.isEmpty=false:=by cases xs with|nil=>exact absurd rfl c1|cons _ _=>rfl
    rw[ei] at ne;refine iy (aM (by simp[bI,ne];omega)) ?_
    have hx:=hd.tup;have hxl:=hx.1;cases k with
    |zero=>exact hd.elim
    | succ k' =>
      have hx':∀d∈xs,Th k' L d:=hd.2;simp only[aF,fu,cb,dI,gL,fK,mi,fx,aY,bh,cQ,aT,dv,dC,O9,Pb,Pm,Pp,exists_eq_left',Qt,Qu,lF,iJ,mB];refine tk hp_ (n+deep+3) q3 `a lx `a λat_ M4 hat q4 k4=>?_
      refine{rfl,rfl,HE hat ?_};refine{xs[at_],?_,?_}
      ·show(bw xs.length (at_:Int)).bind (λj=>xs[j]?)=_;rw[eD hat];simp[hat]
      refine aH (ih c2 (hx' _ (Px hat)) `a q4 `a) λe M5 ⟨he,q5,k5⟩=>?_
      refine{ay `s,lJ.mpr {ay `o,rfl,rfl,BR hat ?_}}
      refine lJ.mpr {ay `o,.tup_of `o λd hd=>?_,q5.mono `a,(K3.trans k4).trans k5}
      rcases Pe.mp hd with z|z
      ·rcases Pe.mp z with z|z
       ·exact(hx' d (Pw z)).mono `a `a
       ·rw[O7.mp z];exact he
      ·exact(hx' d (Ql z)).mono `a `a
   ·refine aG (aM ?_) mid;simp[bI,ne];by_cases e0:xs=[]
    ·simp[e0]
    ·right;refine{e0,?_};have hc':¬ (0<deep/\4<pick):=λz=>hc ⟨e0,z⟩;omega
 |_=>exact aG (aM (by simp[bI])) mid
theorem vZ:∀(deep n:Nat) {k L p B:Nat}{d:D}{M:Mem},deep<=9->Th k L d->k<=50->6<=L->L<=50->aJ M p B->B+10*deep<=700000->
 ai (ak P (n+deep+6) 72 [.cell p,d,nD deep] M) λd' M'=>Th (k+1) (L+1) d'/\aJ M' p (B+6*(deep+1))/\a7 p M M'
 |0,n,k,L,p,B,d,M,h9,hd,hk,h6,hL,hp,hB=>sI hp_ ht_ hw_ n 0 hd hk h6 hL hp `a (λz=>absurd z `d)
 |deep+1,n,k,L,p,B,d,M,h9,hd,hk,h6,hL,hp,hB=>sI hp_ ht_ hw_ n (deep+1) hd hk h6 hL hp `a (λ_ {k' B' d' M'} h1 h2 h3 h4=>by
  rw[show(((deep+1:Nat):Int)-1)=(deep:Int) by omega]
  exact vZ deep n `a h1 h2 h6 hL h3 `a)
end
section
variable{P:Nat->Option Df}{M:Mem}{k L:Nat}{d:D}
def lY (h:yF P)(h13:P 13=some {1,1,dG})(n:Nat)(hd:Th k L d)(hL:L<=100)(hb:eT d=true):ak P (n+8) 13 [d] M=.ok .non M:=by
 refine av (aA h13 rfl ?_);simp[dG,oq h n hd hL,hb]
def r8 (h:yF P)(h13:P 13=some {1,1,dG})(n:Nat)(hd:Th k L d)(hL:L<=100)(hb:eT d=false):ak P (n+8) 13 [d] M=.err (.exc 3 none) M:=by
 refine fD (fM h13 rfl ?_);simp[dG,oq h n hd hL,hb];decide
end
section
variable{P:Nat->Option Df}(h:nY P){M:Mem}
include h
theorem rN (n:Nat){z:Str}(hz:aC 64 (.str z)=true):ak P (n+1) 40 [.str z,.str z] M=.ok (.bl true) M:=by
 refine av (aA h.same rfl ?_);have e:br .eq (.str z) (.str z) M=some true:=nR hz hz (by show(z==z)=true;exact beq_self_eq_true z)
 show ai (d8 (ak P n) [some (.str z),some (.str z)] M) _;unfold d8;refine aG rfl (aG rfl (aG rfl (bu rfl (v:=.bl true) ?_ ⟨rfl,rfl⟩)));show((cK M (br .eq (.str z) (.str z) M)).bind λb M=>Res.ok (D.bl b) M)=_;rw[e];rfl
end
noncomputable def oU (i:Int):List D:=[.exc 0 (some i),.exc 1 (some i),.exc 2 (some i),.exc 3 none,.exc 4 none,.exc 5 none,.exc 6 none,.exc 7 none,.exc 8 none,.exc 9 none,.exc 10 none,.exc 11 none,.exc 12 none,.exc 13 none]
noncomputable def oB:D->D
 |.exc 0 (some i)=>.lst [.str "row",.int i]
 |.exc 1 (some i)=>.lst [.str "rule",.int i]
 |.exc 2 (some i)=>.lst [.str "step",.int i]
 |.exc 3 _=>.lst [.str "machine"]
 |.exc 4 _=>.lst [.str "long"]
 |.exc 5 _=>.lst [.str "word"]
 |.exc 6 _=>.lst [.str "work"]
 |.exc 7 _=>.lst [.str "bound"]
 |.exc 8 _=>.lst [.str "many"]
 |.exc 9 _=>.lst [.str "place"]
 |.exc 10 _=>.lst [.str "deed"]
 |.exc 11 _=>.lst [.str "nothing"]
 |.exc 12 _=>.lst [.str "text"]
 |.exc 13 _=>.lst [.str "line"]
 |_=>.non
def rk {f:Str}{c j:Nat}{i:Int}{Z:Env}{M:Mem}(h:Z[j]?.getD none=some (.exc c (some i)))(e:fV c=f):ki f (ae j) Z M=.ok (.int i) M:=by
 unfold ki ae;rw[h];show(if fV c=f then Res.ok (D.int i) M else .bad)=_;rw[if_pos e]
def xU {x:D}{a:GE}{Z:Env}{M:Mem}{y:D}(e:a Z M=.ok y M):aO false (aa (gC x) (aa a ah)) Z M=.ok (.lst [x,y]) M:=by
 exact lE (az rfl (az e rfl)) (Pk rfl)
section
variable{P:Nat->Option Df}(h75:P 75=some {1,3,eh}){M:Mem}
include h75
theorem xn (n:Nat){i:Int}{d:D}(hd:d∈oU i):ak P (n+1) 75 [d] M=.ok (oB d) M:=by
 refine av (aA h75 rfl ?_);show ai (eh (ak P n) [some d,none,none] M) _;simp only[oU,OL,Pa,or_false] at hd;rcases hd with rfl|rfl|rfl|rfl|rfl|rfl|rfl|rfl|rfl|rfl|rfl|rfl|rfl|rfl
 ·exact bz rfl (bz rfl (bz rfl (bz rfl (bz rfl (aG rfl (bu rfl (xU (rk rfl rfl)) ⟨rfl,rfl⟩))))))
 ·exact bz rfl (bz rfl (bz rfl (bz rfl (bz rfl (aG rfl (aG rfl (bu rfl (xU (rk rfl rfl)) ⟨rfl,rfl⟩)))))))
 ·exact bz rfl (bz rfl (bz rfl (bz rfl (bz rfl (aG rfl (aG rfl (aG rfl (bu rfl (xU (rk rfl rfl)) ⟨rfl,rfl⟩))))))))
 all_goals exact cV `r
end
section
variable{P:Nat->Option Df}(h:nY P){M:Mem}
include h
theorem lT (n:Nat){ds:List D}(hz:ds.length<=sz)(hs:∀d∈ds,ak P n 40 [d,d] M=.ok (.bl true) M):ak P (n+1) 40 [.lst ds,.lst ds] M=.ok (.bl true) M:=by
 refine av (aA h.same rfl ?_);show ai (d8 (ak P n) [some (.lst ds),some (.lst ds)] M) _;unfold d8;exact aG rfl (aG rfl (aG rfl (aG rfl (aG rfl (BW h n rfl rfl rfl rfl rfl rfl hz hs)))))
theorem zu (n:Nat)(i:Int):ak P (n+1) 40 [.int i,.int i] M=.ok (.bl true) M:=by
 refine av (aA h.same rfl ?_);show ai (d8 (ak P n) [some (.int i),some (.int i)] M) _;unfold d8;exact aG rfl (aG rfl (bu rfl (v:=.bl (i==i)) rfl {`s,rfl}))
end
@[simp] theorem mC {Z:Env}{M:Mem}{a:GE}{kf:Fl->Mem->Prop}{c:Nat}:ai (g8 c a Z M) kf↔ai (a Z M) λx M=>∃i,x=.int i/\i.natAbs<2^64/\kf (.exc (.exc c (some i)) Z) M:=by
 unfold g8;cases a Z M with
 | ok x M1 =>
   cases x with
   |int i=>by_cases h:i.natAbs<2^64<;>simp[h]
   |_=>simp
 |err=>exact PL
 |bad=>exact PL
abbrev kN (m:aU):D->Bool:=aZ 0 ((m.deeds.length:Int)-1)
section
variable{P:Nat->Option Df}(h:HasM0 P){M:Mem}{k L:Nat}{d:D}
include h
theorem ub (n:Nat){m:aU}(hd:Th k L d):ak P (n+2) 16 [m.d,d] M=.ok (.bl (kN m d)) M:=by
 refine av (aA h.is_deed_number rfl ?_);simp[fO,aU.d,bw,jS h.q _ hd]
theorem F5 (n:Nat){m:aU}{ds:List D}(hd:∀d∈ds,Th k L d)(hg:∀d∈ds,kN m d=true):ak P (n+3) 17 [m.d,.lst ds] M=.ok .non M:=by
 refine av (aA h.need_numbers rfl ?_);show ai (cD (ak P (n+2)) [some m.d,some (.lst ds),none,none] M) _;unfold cD;refine aG rfl ?_;simp only[aF,dS,ib,aT];refine{_,rfl,rfl,?_};refine cy (ds:=b8 0 ds) (λi Z M'=>M'=M/\∃a b,Z=[some m.d,some (.lst ds),a,b]) (λ_ _ _ e=>rfl) ⟨rfl,none,none,rfl⟩ ?_ ?_
 ·rintro i e Z M' he ⟨rfl,a,b,rfl⟩;rw[cU] at he;obtain⟨x,hx,rfl⟩:=OU.mp he;have hm:=OV hx;refine{_,rfl,aG (aM ?_) {_,rfl,rfl,_,_,rfl}};simp[ub h n (hd x hm),hg x hm]
 ·rintro Z M' ⟨rfl,a,b,rfl⟩;exact⟨rfl,rfl⟩
theorem Cj (n:Nat){m:aU}{ds:List D}{i:Nat}{x:D}(hd:∀d∈ds,Th k L d)(hx:ds[i]?=some x)(hb:kN m x=false)(hg:∀j y,j<i->ds[j]?=some y->kN m y=true)(hi:i<1000000):ak P (n+3) 17 [m.d,.lst ds] M=.err (.exc 0 (some (i:Int))) M:=by
 refine fD (fM h.need_numbers rfl ?_);show ai (cD (ak P (n+2)) [some m.d,some (.lst ds),none,none] M) _;unfold cD;refine aG rfl ?_;simp only[aF,dS,ib,aT];refine{_,rfl,rfl,?_};refine fE (ds:=b8 0 ds) (λj fl M'=>M'=M/\((j<=i/\∃a b,fl=.next [some m.d,some (.lst ds),a,b])\/(i<j/\∃Z,fl=.exc (.exc 0 (some (i:Int))) Z))) (λ_ _ _ e=>rfl) {rfl,.inl {Qy _,none,none,rfl}} ?_ ?_
 ·rintro j e fl M' he ⟨rfl,hj⟩;rw[cU] at he;obtain⟨y,hy,rfl⟩:=OU.mp he;rcases hj with⟨hj,a,b,rfl⟩|⟨hj,Z,rfl⟩
  ·show ai (ag _ aj [some m.d,some (.lst ds),some (.int ((0+j:Nat):Int)),some y] M') _;rw[Qs];have e:=ub h n (m:=m) (M:=M') (hd y (OV hy));by_cases c:j=i
   ·subst c;rw[hx] at hy;cases hy;rw[hb] at e;refine iy (aM (by simp[e])) ?_
    simp only[aF,mC,aT];exact{_,rfl,_,rfl,`a,rfl,.inr {Nat.lt_succ_self _,_,rfl}}
   ·rw[hg j y `a hy] at e
    exact aG (aM (by simp[e])) {rfl,.inl {`a,_,_,rfl}}
  ·exact{rfl,.inr {`a,_,rfl}}
 ·rintro fl M' ⟨rfl,hj⟩;have hlt:=(Oy.mp hx).1;have:(b8 0 ds).length=ds.length:=eG ds 0;rcases hj with⟨hj,_⟩|⟨_,Z,rfl⟩
  ·omega
  ·exact⟨rfl,rfl⟩
theorem Ci (n:Nat){m:aU}(hd:bI .list d=some false):ak P (n+3) 17 [m.d,d] M=.err (.exc 0 (some 0)) M:=by
 refine fD (fM h.need_numbers rfl ?_);show ai (cD (ak P (n+2)) [some m.d,some d,none,none] M) _;unfold cD;refine iy (aM (by simp[hd])) ?_
 simp only[aF,mC,cQ];exact{0,rfl,`d,rfl,rfl}
theorem Nl (n:Nat){r:D}(hd:Th k L d)(hL:L<=100)(hb:eT d=false):ak P (n+9) 18 [d,r] M=.err (.exc 3 none) M:=by
 refine fD (fM h.need_row rfl ?_);show ai (d3 (ak P (n+8)) [some d,some r] M) _;unfold d3;simp only[aF,ij,fo,aY,bh,aT];refine{_,rfl,?_};rw[r8 h.q h.need_machine n hd hL hb];exact⟨rfl,rfl⟩
theorem uh (n:Nat){m:aU}{r:D}{x:D}(hm:bf m)(e:ak P (n+8) 17 [m.d,r] M=.err x M):ak P (n+9) 18 [m.d,r] M=.err x M:=by
 refine fD (fM h.need_row rfl ?_);show ai (d3 (ak P (n+8)) [some m.d,some r] M) _;unfold d3;simp only[aF,ij,fo,aY,bh,aT];refine{_,rfl,?_};rw[lY h.q h.need_machine n (fU hm) `d (fC hm)]
 show ai (ag _ _ [some m.d,some r] M) _;simp only[aF,ij,fo,aY,bh,aT];refine{_,rfl,_,rfl,?_};rw[e];exact⟨rfl,rfl⟩
theorem B0 (n:Nat){m:aU}{ds:List D}(hm:bf m)(e:ak P (n+8) 17 [m.d,.lst ds] M=.ok .non M)(hl:40<ds.length):ak P (n+9) 18 [m.d,.lst ds] M=.err (.exc 4 none) M:=by
 refine fD (fM h.need_row rfl ?_);show ai (d3 (ak P (n+8)) [some m.d,some (.lst ds)] M) _;unfold d3;simp only[aF,ij,fo,aY,bh,aT];refine{_,rfl,?_};rw[lY h.q h.need_machine n (fU hm) `d (fC hm)]
 show ai (ag _ _ [some m.d,some (.lst ds)] M) _;simp only[aF,ij,fo,aY,bh,aT];refine{_,rfl,_,rfl,?_};rw[e];refine iy (aM ?_) ?_
 ·simp only[eO,eU,dC,aY,bh,aT,cQ];refine{_,rfl,_,rfl,_,rfl,?_,rfl};exact decide_eq_true `a
 ·exact⟨rfl,rfl⟩
end
section
variable{Z:Env}{M:Mem}{kf:Fl->Mem->Prop}{rest gb:GS}{a:GE}{s:GA}
def ne_self {z:Str}(hz:aC 64 (.str z)=true):br .ne (.str z) (.str z) M=some false:=iY (v:=true) (x:=.str z) (y:=.str z) hz hz (by simp[view,dJ])
def Of {c:Call}{f:Nat}{xs:List D}{z:Str}(hz:aC 64 (.str z)=true)(es:s Z M=.ok xs M)(ec:c f xs M=.ok (.str z) M):(ax (aL .ne (aq f c s) (gC (.str z))):GT) Z M=.ok false M:=by
 refine aM ?_;simp only[eO,eU,cQ];rw[bB es,ec,cx];exact{_,ne_self hz,false,rfl,rfl,rfl}
def qt {b:GE}{x y:D}(e1:a Z M=.ok x M)(e2:b Z M=.ok y M):bH (aa a (aa b ah)) Z M=.ok (.tup [x,y]) M:=by
 unfold bH;rw[az e1 (az e2 rfl)];exact(if_pos (ay (n:=2) `d):(if 2<=sz then Res.ok (D.tup [x,y]) M else .bad)=_)
def xm {j l:Nat}{xs:List D}{v:Nat}(h1:Z[j]?.getD none=some (.lst xs))(h2:Z[l]?.getD none=some (nD v))(hz:xs.length<=100):cq false false true (ae j) gN (ae l) Z M=.ok (.lst (xs.take v)) M:=by
 refine av ?_;simp only[mi,aT,cQ];exact{_,h1,_,h2,rfl,rfl,Fo.mpr {ay `o,rfl,rfl}}
def qS {j l:Nat}{xs:List D}{v:Nat}(h1:Z[j]?.getD none=some (.lst xs))(h2:Z[l]?.getD none=some (nD v))(hz:xs.length<=100):cq false true false (ae j) (ae l) gN Z M=.ok (.lst (xs.drop v)) M:=by
 refine av ?_;simp only[mi,aT,cQ];exact{_,h1,_,h2,rfl,rfl,BU.mpr {ay `o,rfl,rfl}}
end
def Ck {m:aU}{i:Nat}(hi:i<m.deeds.length):kN m (nD i)=true:=by
 show(decide ((0:Int)<=(i:Int))&&decide ((i:Int)<=(m.deeds.length:Int)-1))=true;rw[decide_eq_true `a,decide_eq_true `a];rfl
def zeros (n:Nat):List D:=List.replicate n (.int 0)
structure Good (b:Nat) (x:D):Prop where
 sh:(toPy x).showable=true
 short:PyData.leavesShort 40 (toPy x)=true
 bulk:(toPy x).bulk<=b
noncomputable def yg (b:Nat)(x:D):Bool:=(toPy x).showable&&(PyData.leavesShort 40 (toPy x)&&decide ((toPy x).bulk<=b))
def CH {b:Nat}{x:D}(h:yg b x=true):Good b x:=by
 unfold yg at h;rw[OB,OB] at h;exact{h.1,h.2.1,of_decide_eq_true h.2.2}
def oR {b:Nat}:∀{ds:List D},(∀d∈ds,Good b d)->PyData.showableAll (bD ds)=true/\PyData.leavesShortAll 40 (bD ds)=true/\PyData.bulkAll (bD ds)<=(b+1)*ds.length
 |[],_=>{rfl,rfl,Qy _}
 | d :: r, h => by
   obtain⟨a2,a3,a4⟩:=oR (ds:=r) λx hx=>h x (ON _ hx);obtain⟨b2,b3,b4⟩:=h d OT;refine{?_,?_,?_}
   ·show PyData.showableAll (toPy d::bD r)=true;rw[PyData.showableAll,b2,a2];rfl
   ·show PyData.leavesShortAll 40 (toPy d::bD r)=true;rw[PyData.leavesShortAll,b3,a3];rfl
   ·show PyData.bulkAll (toPy d::bD r)<=_;rw[PyData.bulkAll,List.length_cons,Nat.mul_succ];omega
def Good.lst {b:Nat}{ds:List D}(h:∀d∈ds,Good b d):Good ((b+1)*ds.length) (.lst ds):=by
 obtain⟨a2,a3,a4⟩:=oR h;refine{?_,?_,?_}
 ·show PyData.showable (.list (bD ds))=true;rw[PyData.showable];exact a2
 ·show PyData.leavesShort 40 (.list (bD ds))=true;rw[PyData.leavesShort];exact a3
 ·show PyData.bulk (.list (bD ds))<=_;rw[PyData.bulk];exact a4
def Good.tup {b:Nat}{ds:List D}(h:∀d∈ds,Good b d):Good ((b+1)*ds.length) (.tup ds):=by
 obtain⟨a2,a3,a4⟩:=oR h;refine{?_,?_,?_}
 ·show PyData.showable (.tuple (bD ds))=true;rw[PyData.showable];exact a2
 ·show PyData.leavesShort 40 (.tuple (bD ds))=true;rw[PyData.leavesShort];exact a3
 ·show PyData.bulk (.tuple (bD ds))<=_;rw[PyData.bulk];exact a4
def Good.mono {b b':Nat}{x:D}(h:Good b x)(hb:b<=b'):Good b' x:={h.sh,h.short,OI h.bulk hb}
def qr (x:D):D:=.str (toPy x).shown
def we {s:GA}{Z:Env}{M:Mem}{k L b:Nat}{x:D}(es:s Z M=.ok [x] M)(ht:Th k L x)(hk:k<=64)(hg:Good b x)(hb:b<=100000):iE s Z M=.ok (qr x) M:=by
 have pu:aC 64 x=true:=(ht.mono hk (OF _)).pure;have vw:=pA M 64 64 x pu;have hs:ny M x=true:=by
  unfold ny ie;rw[vw,pu,hg.sh,Bool.true_and,Bool.true_and];refine decide_eq_true ?_;have h1:=PyData.shown_le_bulk 40 `d (toPy x) hg.short
  have h2:=hg.bulk;show _<=2^24;omega
 unfold iE;rw[es];show(if ny M x=true then Res.ok (D.str (ie M x)) M else .bad)=_;rw[if_pos hs];unfold ie qr;rw[vw]
def Jf {x:D}{M:Mem}:br .ne (qr x) (qr x) M=some false:=by
 show(lI M (.str _) (.str _)).map (!·)=_;rw[qV];simp
noncomputable def gE (m:aU):D->D
 | .lst ds => match ds.findIdx? λd => !kN m d with
   |some i=>.exc 0 (some (i:Int))
   |none=>if 40<ds.length then .exc 4 none else .non
 |_=>.exc 0 (some 0)
def uC {m:aU}:∀{ds:List D},(∀d∈ds,kN m d=true)->∃r:List Nat,ds=r.map nD/\∀i∈r,i<m.deeds.length
 |[],_=>{[],rfl,λ_ h=>nomatch h}
 | d :: ds, h => by
   obtain⟨r,rfl,hr⟩:=uC (ds:=ds) λx hx=>h x (ON _ hx);have hd:=h d OT;cases d with
   | int i =>
     have hd:(decide ((0:Int)<=i)&&decide (i<=(m.deeds.length:Int)-1))=true:=hd;rw[OB,decide_eq_true_eq,decide_eq_true_eq] at hd;refine{i.toNat::r,?_,λj hj=>?_}
     ·show _=nD i.toNat::r.map nD;rw[show nD i.toNat=D.int i by show D.int (i.toNat:Int)=_;rw[QF hd.1]]
     ·rcases OL.mp hj with rfl|hj
      ·omega
      ·exact hr j hj
   |_=>cases hd
inductive cE (m:aU):D->D->Prop
 |ok (r:List Nat) (h:eI m r):cE m (bF r) .non
 |long (ds:List D) (h:∀d∈ds,kN m d=true) (hl:40<ds.length):cE m (.lst ds) (.exc 4 none)
 |bad (ds:List D) (i:Nat) (x:D) (hx:ds[i]?=some x) (hb:kN m x=false) (hg:∀j y,j<i->ds[j]?=some y->kN m y=true):cE m (.lst ds) (.exc 0 (some (i:Int)))
 |not (x:D) (h:bI .list x=some false):cE m x (.exc 0 (some 0))
def j7 {m:aU}{k L:Nat}{x:D}(hx:Th k L x):cE m x (gE m x):=by
 cases x with
 | lst ds =>
   show cE m _ (match ds.findIdx? λd=>!kN m d with|some i=>D.exc 0 (some (i:Int))|none=>if 40<ds.length then .exc 4 none else .non)
   cases e:ds.findIdx? λd=>!kN m d with
   | some i =>
     obtain⟨hi,h1,h2⟩:=List.findIdx?_eq_some_iff_getElem.mp e;refine .bad ds i ds[i] (OW hi) (by simpa using h1) λj y hj hy=>?_
     obtain⟨hj',rfl⟩:=Oy.mp hy;simpa using h2 j hj
   | none =>
     have h1:=List.findIdx?_eq_none_iff.mp e;have h2:∀d∈ds,kN m d=true:=λd hd=>by simpa using h1 d hd
     show cE m _ (if 40<ds.length then D.exc 4 none else .non);by_cases c:40<ds.length
     ·rw[if_pos c];exact .long ds h2 c
     ·rw[if_neg c];obtain⟨r,rfl,hr⟩:=uC h2;exact .ok r {by simpa using c,hr}
 |frz ds=>cases k<;>exact hx.elim
 |cell j=>cases k<;>exact hx.elim
 |fn j=>cases k<;>exact hx.elim
 |exc y p=>cases k<;>exact hx.elim
 |_=>exact .not _ rfl
def isOk:D->Bool
 |.non=>true
 |_=>false
section
variable{P:Nat->Option Df}(h:HasM0 P){M:Mem}{m:aU}{k L:Nat}
include h
theorem qH (n:Nat){x:D}(hm:bf m)(hv:cE m x .non):ak P (n+9) 18 [m.d,x] M=.ok .non M:=by
 cases hv with
 |ok r hr=>exact Hz h n hm hr
theorem oK (n:Nat){x v:D}(hm:bf m)(hx:Th (k+1) L x)(hL:L<=900000)(hv:cE m x v)(hn:v≠.non):ak P (n+9) 18 [m.d,x] M=.err v M:=by
 cases hv with
 |ok r hr=>exact absurd rfl hn
 |long ds hg hl=>exact B0 h n hm (F5 h (n+5) hx.2 hg) hl
 | bad ds i y hy hb hg =>
   have:=(Oy.mp hy).1;have:=hx.1;exact uh h n hm (Cj h (n+5) hx.2 hy hb hg `a)
 |not x hi=>exact uh h n hm (Ci h (n+5) hi)
end
def Hx {m:aU}{Z:Env}{M:Mem}{j:Nat}(e:Z[j]?.getD none=some m.d):au false .sub (aX .len (aa (aE (ae j) (gI 2)) ah)) (gI 1) Z M=.ok (.int ((m.deeds.length:Int)-1)) M:=by
 refine av ?_;simp only[dv,dC,aY,bh,fK,aT,cQ];refine{_,e,.tup (m.deeds.map a8.d),rfl,lF.mpr (mB.mpr {?_,rfl})};rw[OM]
def l8 {ds:List D}{Z:Env}{M:Mem}{j:Nat}(e:Z[j]?.getD none=some (.lst ds)):aX .len (aa (ae j) ah) Z M=.ok (nD ds.length) M:=by
 unfold aX;rw[az (aw e) rfl];rfl
section
variable{P:Nat->Option Df}(h:i9 P){M:Mem}{m:aU}{k L:Nat}
include h
theorem HA (h90:P 90=some {2,4,cg})(n:Nat){x v:D}(hm:bf m)(hx:Th (k+1) L x)(hL:L<=900000)(hv:cE m x v):ak P (n+6) 90 [m.d,x] M=.ok (oB v) M:=by
 refine av (aA h90 rfl ?_);show ai (cg (ak P (n+5)) [some m.d,some x,none,none] M) _;unfold cg;have em:=kz h n (M:=M) (fU hm) `d `d
 rw[fC hm] at em;refine aG (js (b:=true) (eL (ji rfl em))) ?_;have body:∀{ds:List D}{y:D}{a:D},(Th k L y)->(aq 68 (ak P (n+5)) (aa (ae 3) (aa (gI 0) (aa (au false .sub (aX .len (aa (aE (ae 0) (gI 2)) ah)) (gI 1)) ah)))) [some m.d,some (.lst ds),some a,some y] M=.ok (.bl (kN m y)) M:=λ{ds y a} hy=>
  (bB (az (aw rfl) (az rfl (az (Hx rfl) rfl)))).trans (jn h (n+3) hy _ _)
 cases hv with
 | not x hi =>
   refine bu (js (b:=false) (eL ?_)) (v:=.lst [.str "row",.int 0]) rfl ⟨rfl,rfl⟩;unfold bL;show(cK M (bI .list x)).bind _=_;rw[hi];rfl
 | ok r hr =>
   refine aG rfl ?_;simp only[aF,dS,ib,aT];refine{_,rfl,rfl,?_};refine cy (ds:=b8 0 (r.map nD)) (λi Z M'=>M'=M/\∃a b,Z=[some m.d,some (bF r),a,b]) (λ_ _ _ e=>rfl) ⟨rfl,none,none,rfl⟩ ?_ ?_
   ·rintro i e Z M' he ⟨rfl,a,b,rfl⟩;rw[cU] at he;obtain⟨y,hy,rfl⟩:=OU.mp he;obtain⟨q,hq,rfl⟩:=Pt.mp (OV hy);refine{_,rfl,aG (js (b:=true) (eL ?_)) {_,rfl,rfl,_,_,rfl}};have:=body (ds:=r.map nD) (y:=nD q) (a:=.int ((0+i:Nat):Int)) (by cases k<;>trivial)
    rw[Ck (hr.2 q hq)] at this;exact this
   ·rintro Z M' ⟨rfl,a,b,rfl⟩;refine b7 (v:=.non) ?_ ⟨rfl,rfl⟩;unfold fJ;have e:(ax (aL .gt (aX .len (aa (ae 1) ah)) (gI 40)):GT) [some m.d,some (bF r),a,b] M'=.ok false M':=by
     refine aM ?_;simp only[eO,eU,cQ];rw[l8 (ds:=r.map nD) rfl,cx];refine{_,rfl,_,rfl,decide_eq_false ?_,rfl};have:=hr.1;simp;omega
    rw[e];rfl
 | long ds hg hl =>
   refine aG rfl ?_;simp only[aF,dS,ib,aT];refine{_,rfl,rfl,?_};refine cy (ds:=b8 0 ds) (λi Z M'=>M'=M/\∃a b,Z=[some m.d,some (.lst ds),a,b]) (λ_ _ _ e=>rfl) ⟨rfl,none,none,rfl⟩ ?_ ?_
   ·rintro i e Z M' he ⟨rfl,a,b,rfl⟩;rw[cU] at he;obtain⟨y,hy,rfl⟩:=OU.mp he;have hm':=OV hy;refine{_,rfl,aG (js (b:=true) (eL ?_)) {_,rfl,rfl,_,_,rfl}};have:=body (ds:=ds) (y:=y) (a:=.int ((0+i:Nat):Int)) (hx.2 y hm');rw[hg y hm'] at this;exact this
   ·rintro Z M' ⟨rfl,a,b,rfl⟩;refine b7 (v:=.lst [.str "long"]) ?_ ⟨rfl,rfl⟩;unfold fJ;have e:(ax (aL .gt (aX .len (aa (ae 1) ah)) (gI 40)):GT) [some m.d,some (.lst ds),a,b] M'=.ok true M':=by
     refine aM ?_;simp only[eO,eU,cQ];rw[l8 (ds:=ds) rfl,cx];exact{_,rfl,_,rfl,decide_eq_true `a,rfl}
    rw[e];rfl
 | bad ds i y hy hb hg =>
   refine aG rfl ?_;simp only[aF,dS,ib,aT];refine{_,rfl,rfl,?_};refine qT (ds:=b8 0 ds) (λj Z M'=>M'=M/\j<=i/\∃a b,Z=[some m.d,some (.lst ds),a,b]) (λd M'=>d=.lst [.str "row",.int (i:Int)]/\M'=M) (λ_ _ _ e=>rfl) (λ_ _ _=>rfl) {rfl,Qy _,none,none,rfl} ?_ ?_ ?_
   ·rintro j e Z M' he ⟨rfl,hj,a,b,rfl⟩;rw[cU] at he;obtain⟨z,hz,rfl⟩:=OU.mp he;have ez:=body (ds:=ds) (y:=z) (a:=.int ((0+j:Nat):Int)) (hx.2 z (OV hz));refine{_,rfl,?_};by_cases c:j=i
    ·subst c;rw[hy] at hz;cases hz;rw[hb] at ez;refine bu (js (b:=false) (eL ez)) (xU (aw rfl)) (.inr {_,rfl,?_,rfl});rw[Qs]
    ·rw[hg j z `a hz] at ez
     exact aG (js (b:=true) (eL ez)) (.inl {_,rfl,rfl,`a,_,_,rfl})
   ·rintro Z M' ⟨rfl,hj,_⟩;have hlt:=(Oy.mp hy).1;have:(b8 0 ds).length=ds.length:=eG ds 0;omega
   ·rintro d M' ⟨rfl,rfl⟩;exact⟨rfl,rfl⟩
end
def Fz {m:aU}{x v:D}(hv:cE m x v)(hn:v≠.non):kL (oB v)=false:=by
 cases hv with
 |ok r hr=>exact absurd rfl hn
 |long ds hg hl=>rfl
 |bad ds i y hy hb hg=>rfl
 |not x hi=>rfl
def CI {i:Int}{x:D}(h:x∈oU i):∃c p,x=.exc c p:=by
 simp only[oU,OL,Pa,or_false] at h;rcases h with rfl|rfl|rfl|rfl|rfl|rfl|rfl|rfl|rfl|rfl|rfl|rfl|rfl|rfl<;>exact{_,_,rfl}
section
variable{P:Nat->Option Df}{M:Mem}{d r:D}
def N1 (h19:P 19=some {2,2,vA})(n:Nat){x:D}(e:ak P n 18 [d,r] M=.err x M):ak P (n+1) 19 [d,r] M=.err x M:=by
 refine fD (fM h19 rfl ?_);show ai (vA (ak P n) [some d,some r] M) _;unfold vA;simp only[aF,ij,fo,aY,bh,aT];refine{_,rfl,_,rfl,?_};rw[e];exact⟨rfl,rfl⟩
variable(h91:P 91=some {3,6,rj}){a:Nat}(ha:a=0\/a=1)
include h91 ha
end
noncomputable def items:List D:=(List.range 20).map (λ(k:Nat)=>nD k)++[.int (-1),.int (-2),.int (10^20),.bl true,.bl false,.non,.str "0",.lst [.int 0],.tup [.int 0],.lst [],.str "",.str "turn",.str "join",.str "move",.str "put",.str "Turn",.tup []]
def oP {x:D}(h:x∈items):Th 2 200 x/\Good 5 x:=by
 have e:items.all (λx=>tQ 2 200 x&&yg 5 x)=true:=`k
 have q:=OJ.mp e x h;rw[OB] at q;exact{pC q.1,CH q.2}
def eC {i:Nat}(h:i<20):nD i∈items:=Qe _ (List.mem_map.mpr {i,Qq.mpr h,rfl})
structure Itm (n:Nat) (xs:List D):Prop where
 len:xs.length<=n
 all:∀x∈xs,x∈items
structure Thing (x:D):Prop where
 th:Th 3 200 x
 good:Good 10000 x
def Itm.lst {n:Nat}{xs:List D}(h:Itm n xs)(hn:n<=200):Thing (.lst xs):=by
 have:=h.len;exact{.lst_of `a λd hd=>(oP (h.all d hd)).1,(Good.lst λd hd=>(oP (h.all d hd)).2).mono `a}
def Itm.app {n n':Nat}{xs ys:List D}(h:Itm n xs)(h':Itm n' ys):Itm (n+n') (xs++ys):=by
 have:=h.len;have:=h'.len;refine{by rw[Pz];omega,λx hx=>?_}
 rcases Pe.mp hx with z|z
 ·exact h.all x z
 ·exact h'.all x z
def Itm.take {n:Nat}{xs:List D}(h:Itm n xs)(k:Nat):Itm n (xs.take k):={by have:=h.len;rw[PU];omega,λx hx=>h.all x (Pw hx)}
def Itm.drop {n:Nat}{xs:List D}(h:Itm n xs)(k:Nat):Itm n (xs.drop k):={by have:=h.len;rw[List.length_drop];omega,λx hx=>h.all x (Ql hx)}
def Itm.one {x:D}(h:x∈items):Itm 1 [x]:={OF _,λy hy=>by rw[O7.mp hy];exact h}
def Itm.put {n k:Nat}{xs:List D}{x:D}(h:Itm n xs)(hx:x∈items):Itm (n+1) (xs.take k++[x]++xs.drop k):=by
 have:=h.len;exact{by simp;omega,(((h.take k).app (.one hx)).app (h.drop k)).all}
def Itm.mono {n n':Nat}{xs:List D}(h:Itm n xs)(hn:n<=n'):Itm n' xs:={OI h.len hn,h.all}
def Itm.zeros (n:Nat):Itm n (zeros n):={by simp[LD.zeros],λx hx=>by rw[(List.mem_replicate.mp hx).2];exact eC (i:=0) `d}
def qy {m:aU}{r:List Nat}{n:Nat}(hm:bf m)(hr:∀i∈r,i<m.deeds.length)(hl:r.length<=n):Itm n (r.map nD):=by
 have:=hm.d6;refine{by rw[OM];exact hl,λx hx=>?_}
 obtain⟨i,hi,rfl⟩:=Pt.mp hx;exact eC (by have:=hr i hi;omega)
section
variable{Z:Env}{M:Mem}{a b:GE}
def C1 {m:aU}{j:Nat}(e:Z[j]?.getD none=some m.d):aX .len (aa (aE (ae j) (gI 2)) ah) Z M=.ok (nD m.deeds.length) M:=by
 refine av ?_;simp only[dC,aY,bh,fK,aT,cQ];refine{_,e,.tup (m.deeds.map a8.d),rfl,lF.mpr {?_,rfl}};rw[OM]
def FV {v c:Nat}(e:a Z M=.ok (nD v) M):au false .add a (gC (.int (c:Int))) Z M=.ok (nD (v+c)) M:=by
 unfold au;rw[e];show Res.ok (D.int ((v:Int)+(c:Int))) M=_;rw[show((v:Int)+(c:Int))=((v+c:Nat):Int) by omega]
def Iu {j l:Nat}{xs:List D}{x:D}{v:Nat}(h1:Z[j]?.getD none=some (.lst xs))(h2:Z[l]?.getD none=some (nD v))(h3:a Z M=.ok x M)(hz:xs.length<=50):au false .add (au false .add (cq false false true (ae j) gN (ae l)) (aO false (aa a ah))) (cq false true false (ae j) (ae l) gN) Z M=.ok (.lst (xs.take v++[x]++xs.drop v)) M:=
 A7 (A7 (xm h1 h2 `a) (lE (az h3 rfl) (Pk rfl)) `o) (qS h1 h2 `a) `o
def wG {j:Nat}{xs:List D}(h:Z[j]?.getD none=some (.lst xs)):au false .add (aX .len (aa (ae j) ah)) (gI 1) Z M=.ok (nD (xs.length+1)) M:=FV (c:=1) (l8 h)
def G7 {xs ys:List D}(ea:a Z M=.ok (.lst xs) M)(eb:b Z M=.ok (.lst ys) M)(hl:(xs++ys).length<=1000):au false .add a b Z M=.ok (.lst (xs++ys)) M:=by
 unfold au;rw[ea];show(b Z M).bind _=_;rw[eb];show(if (xs++ys).length<=sz then(if false=true then _ else Res.ok (D.lst (xs++ys)) M) else .bad)=_;rw[if_pos (ay `a)]
 rfl
end
def m5 {lo hi:Int}{d:D}(h:aZ lo hi d=true)(h0:0<=lo):∃i:Nat,d=nD i/\lo<=(i:Int)/\(i:Int)<=hi:=by
 cases d with
 | int i =>
   have h:(decide (lo<=i)&&decide (i<=hi))=true:=h;rw[OB,decide_eq_true_eq,decide_eq_true_eq] at h;have e:((i.toNat:Nat):Int)=i:=QF (Int.le_trans h0 h.1);exact{i.toNat,by show D.int i=D.int _;rw[e],by rw[e];exact h.1,by rw[e];exact h.2}
 |_=>cases h
def wA {w:Nat}:∀{ds:List D},(∀d∈ds,aZ 0 ((w:Int)-1) d=true)->∃t:List Nat,ds=t.map nD/\∀i∈t,i<w
 |[],_=>{[],rfl,λ_ h=>nomatch h}
 | d :: ds, h => by
   obtain⟨r,rfl,hr⟩:=wA (ds:=ds) λx hx=>h x (ON _ hx);obtain⟨i,rfl,_,hi⟩:=m5 (h d OT) (Int.le_refl _);refine{i::r,rfl,λj hj=>?_};rcases OL.mp hj with rfl|hj
   ·omega
   ·exact hr j hj
def tab_of {w:Nat}{d:D}(h:gD w d=true):∃t,d=aP t/\gR w t:=by
 cases d with
 | tup ds =>
   have h:(ds.length==w&&ds.all (aZ 0 ((w:Int)-1)))=true:=h;rw[OB,beq_iff_eq,OJ] at h;obtain⟨t,rfl,ht⟩:=wA h.2;exact{t,rfl,by simpa using h.1,ht}
 |_=>cases h
def vS {w:Nat}:∀{ds:List D},(∀d∈ds,gD w d=true)->∃t:List (List Nat),ds=t.map aP/\∀x∈t,gR w x
 |[],_=>{[],rfl,λ_ h=>nomatch h}
 | d :: ds, h => by
   obtain⟨r,rfl,hr⟩:=vS (ds:=ds) λx hx=>h x (ON _ hx);obtain⟨t,rfl,ht⟩:=tab_of (h d OT);refine{t::r,rfl,λx hx=>?_};rcases OL.mp hx with rfl|hx
   ·exact ht
   ·exact hr x hx
def GC {w:Nat}{d:D}(h:jh w d=true):∃t:List (List Nat),d=.tup (t.map aP)/\t.length=w/\∀x∈t,gR w x:=by
 cases d with
 | tup ds =>
   have h:(ds.length==w&&ds.all (gD w))=true:=h;rw[OB,beq_iff_eq,OJ] at h;obtain⟨t,rfl,ht⟩:=vS h.2;exact{t,rfl,by simpa using h.1,ht}
 |_=>cases h
def nP {d:D}(h:aZ 1 3 d=true):∃c,d=nD c/\fT c:=by
 obtain⟨c,rfl,h1,h2⟩:=m5 h `d
 exact{c,rfl,`a,`a}
def kd {p:Nat}{d:D}(h:aZ 0 ((p:Int)-1) d=true):∃a,d=nD a/\a<p:=by
 obtain⟨a,rfl,_,h2⟩:=m5 h (Int.le_refl _);exact{a,rfl,`a}
def GR {w p:Nat}{d:D}(h:ff w p d=true):∃e:a8,d=e.d/\cj w p e:=by
 match d,h with
 | .tup (.str s :: ds), h =>
   have h:cF w p s ds=true:=h;by_cases c1:s="turn"
   ·subst c1;rw[mO] at h
    match ds,h with
    | [a, t, c], h =>
      have h:(aZ 0 ((p:Int)-1) a&&(gD w t&&aZ 1 3 c))=true:=h;rw[OB,OB] at h;obtain⟨a,rfl,ha⟩:=kd h.1;obtain⟨t,rfl,ht⟩:=tab_of h.2.1;obtain⟨c,rfl,hc⟩:=nP h.2.2;exact{.turn a t c,rfl,ha,ht,hc}
   ·by_cases c2:s="join"
    ·subst c2;rw[mM] at h
     match ds,h with
     | [a, o, t, c], h =>
       have h:(aZ 0 ((p:Int)-1) a&&(aZ 0 ((p:Int)-1) o&&(jh w t&&aZ 1 3 c)))=true:=h;rw[OB,OB,OB] at h;obtain⟨a,rfl,ha⟩:=kd h.1;obtain⟨o,rfl,ho⟩:=kd h.2.1;obtain⟨t,rfl,ht⟩:=GC h.2.2.1;obtain⟨c,rfl,hc⟩:=nP h.2.2.2;exact{.join a o t c,rfl,ha,ho,ht,hc}
    ·by_cases c3:s="move"
     ·subst c3;rw[mL] at h
      match ds,h with
      | [a, o, c], h =>
        have h:(aZ 0 ((p:Int)-1) a&&(aZ 0 ((p:Int)-1) o&&aZ 1 3 c))=true:=h;rw[OB,OB] at h;obtain⟨a,rfl,ha⟩:=kd h.1;obtain⟨o,rfl,ho⟩:=kd h.2.1;obtain⟨c,rfl,hc⟩:=nP h.2.2;exact{.move a o c,rfl,ha,ho,hc}
     ·by_cases c4:s="put"
      ·subst c4;rw[mK] at h
       match ds,h with
       | [a, x, c], h =>
         have h:(aZ 0 ((p:Int)-1) a&&(aZ 0 ((w:Int)-1) x&&aZ 1 3 c))=true:=h;rw[OB,OB] at h;obtain⟨a,rfl,ha⟩:=kd h.1;obtain⟨x,rfl,hx⟩:=kd h.2.1;obtain⟨c,rfl,hc⟩:=nP h.2.2;exact{.put a x c,rfl,ha,hx,hc}
      ·rw[uw c1 c2 c3 c4] at h;cases h
def so {w p:Nat}:∀{ds:List D},(∀d∈ds,ff w p d=true)->∃es:List a8,ds=es.map a8.d/\∀e∈es,cj w p e
 |[],_=>{[],rfl,λ_ h=>nomatch h}
 | d :: ds, h => by
   obtain⟨r,rfl,hr⟩:=so (ds:=ds) λx hx=>h x (ON _ hx);obtain⟨e,rfl,he⟩:=GR (h d OT);refine{e::r,rfl,λx hx=>?_};rcases OL.mp hx with rfl|hx
   ·exact he
   ·exact hr x hx
def Gg {d:D}(h:eT d=true):∃m:aU,d=m.d/\bf m:=by
 match d,h with
 | .tup [a, b, c], h =>
   have h:(aZ 2 4 a&&(aZ 1 2 b&&(fX c&&(pW c).all (ff (eE a) (eE b)))))=true:=h;rw[OB,OB,OB] at h;obtain⟨h1,h2,h3,h4⟩:=h;obtain⟨w,rfl,w2,w4⟩:=m5 h1 `d
   obtain⟨p,rfl,p1,p2⟩:=m5 h2 `d
   cases c with
   | tup ds =>
     have h3:(decide (1<=ds.length)&&decide (ds.length<=6))=true:=h3;rw[OB,decide_eq_true_eq,decide_eq_true_eq] at h3;have h4:ds.all (ff (eE (nD w)) (eE (nD p)))=true:=h4;rw[OJ] at h4;obtain⟨es,rfl,he⟩:=so h4;rw[OM] at h3;refine{⟨w,p,es⟩,rfl,{?_,?_,?_,?_,h3.1,h3.2,he}}
     ·show 2<=w;omega
     ·show w<=4;omega
     ·show 1<=p;omega
     ·show p<=2;omega
   |_=>cases h3
structure Mg (P:Nat->Option Df):Prop where
 m:HasM P
 p:HasP P
 t:HasT P
 w:i9 P
 s:nY P
 a:yG P
 h35:P 35=some {3,6,eV}
 h75:P 75=some {1,3,eh}
 h90:P 90=some {2,4,cg}
 h94:P 94=some {3,5,rh}
 h95:P 95=some {3,4,sV}
 h96:P 96=some {3,5,sU}
 h97:P 97=some {1,12,G2}
def bY {y:D}(h:y∈[D.int (-1),.int (-2),.int (10^20),.bl true,.bl false,.non,.str "0",.lst [.int 0],.tup [.int 0],.lst [],.str "",.str "turn",.str "join",.str "move",.str "put",.str "Turn",.tup []]):y∈items:=Pq _ h
def Ab {x:D}(h:x∈eX):x∈items:=by
 simp only[eX,OL,Pa,or_false] at h;rcases h with rfl|rfl|rfl|rfl|rfl|rfl|rfl|rfl|rfl|rfl|rfl|rfl|rfl|rfl|rfl|rfl|rfl|rfl|rfl|rfl
 ·exact bY `s
 ·exact bY `s
 ·exact bY `s
 ·exact bY `s
 ·exact bY `s
 ·exact bY `s
 ·exact bY `s
 ·exact bY `s
 ·exact bY `s
 ·exact bY `s
 ·exact bY `s
 ·exact bY `s
 ·exact bY `s
 ·exact eC (i:=0) `d
 ·exact eC (i:=1) `d
 ·exact eC (i:=4) `d
 ·exact bY `s
 ·exact bY `s
 ·exact bY `s
 ·exact eC (i:=7) `d
def uD {v:Nat}(h:v<9):D.int ((v:Int)-2)∈items:=by
 match v,h with
 |0,_=>exact bY `s
 |1,_=>exact bY `s
 |v+2,h=>rw[show(((v+2:Nat):Int)-2)=((v:Nat):Int) by omega];exact eC `a
def wJ {a i:GE}{Z:Env}{M:Mem}{xs:List D}{v:Nat}(ea:a Z M=.ok (.lst xs) M)(ei:i Z M=.ok (nD v) M)(h:v<xs.length):aE a i Z M=.ok xs[v] M:=by
 unfold aE;rw[ea];show(i Z M).bind _=_;rw[ei];show cK M (bZ (.lst xs) (nD v) M)=_;rw[nI h];rfl
section
variable{P:Nat->Option Df}{M:Mem}
def BO (hp_:HasP P)(ht_:HasT P)(hw_:i9 P)(n:Nat){p B:Nat}(hp:aJ M p B)(hB:B<=700000):ai (ak P (n+6) 72 [.cell p,.int 0,.int 0] M) λd M'=>d∈items/\aJ M' p (B+3)/\a7 p M M':=by
 refine aA ht_.bent rfl ?_;show ai (jm (ak P (n+5)) [some (.cell p),some (.int 0),some (.int 0),none,none,none,none,none,none] M) _;unfold jm;refine ft hp_ (n+3) (many:=8) rfl rfl hp `a `d `d λkind M1 hkd q1 k1=>?_
 refine ft hp_ (n+3) (many:=20) rfl rfl q1 `a `d `d λpick M2 hpk q2 k2=>?_
 refine bQ (k:=λd M'=>∃v:Nat,d=.int ((v:Int)-2)/\v<9/\aJ M' p (B+3)/\a7 p M2 M') ?_ ?_
 ·rw[dv];refine aH (fw hp_ (n+3) (many:=9) rfl rfl q2 `a `d `d) ?_
  rintro _ M' ⟨v,rfl,hv,q,kk⟩;simp only[cQ];exact mB.mpr ⟨v,rfl,hv,q,kk⟩
 rintro _ M3 ⟨v,rfl,hv,q3,k3⟩;refine aG rfl ?_;show ai (ag _ (ag _ (jX (ak P (n+5)))) [some (.cell p),some (.int 0),some (.int 0),some (nD kind),some (nD pick),some (.int ((v:Int)-2)),none,none,none] M3) _;refine rX ?_;unfold jX;refine aG rfl (iy (eL (ji rfl (ky hw_ (n+4) (k:=0) (L:=0) (d:=.int 0) trivial))) ?_);have hl:pick<eX.length:=hpk;refine b7 (wJ (xs:=[.int 1,.int (-1),.int 0,.int ((v:Int)-2),.int ((v:Int)-2),.bl false,.int 3,eX[pick]]) (lE (az rfl (az rfl (az rfl (az (aw rfl) (az (aw rfl) (az rfl (az rfl (az (wJ (aw rfl) (aw rfl) hl) rfl)))))))) (Pk rfl)) (aw rfl) hkd) {?_,q3,(k1.trans k2).trans k3};have mem:∀x∈[D.int 1,.int (-1),.int 0,.int ((v:Int)-2),.int ((v:Int)-2),.bl false,.int 3,eX[pick]],x∈items:=λx hx=>by
  simp only[OL,Pa,or_false] at hx;rcases hx with rfl|rfl|rfl|rfl|rfl|rfl|rfl|rfl
  ·exact eC (i:=1) `d
  ·exact bY `s
  ·exact eC (i:=0) `d
  ·exact uD hv
  ·exact uD hv
  ·exact bY `s
  ·exact eC (i:=3) `d
  ·exact Ab (Px hl)
 exact mem _ (Px _)
variable(h:Mg P)
include h
omit h in
theorem HL (hs:nY P)(n:Nat){z:Str}(hz:aC 64 (.str z)=true):ak P (n+2) 40 [.lst [.str z],.lst [.str z]] M=.ok (.bl true) M:=
 lT hs (n+1) (ay (n:=1) `d) λd hd=>by rw[O7.mp hd];exact rN hs n hz
end
def mR {t:GT}{A rest:GS}{Z:Env}{M:Mem}{k:Fl->Mem->Prop}{R:Mem->Prop}(ht:ai (t Z M) λb M'=>b=true/\R M')(h:∀M',R M'->ai (A Z M') (gK rest k)):ai (ag (aQ t A aj) rest Z M) k:=by
 simp only[aF,ig];obtain⟨b,M',e,rfl,r⟩:=kC.mp ht;rw[e];exact h M' r
def BV {m:aU}{x v:D}(hv:cE m x v)(hn:v≠.non):∃c p,v=.exc c p/\(c=0\/c=4):=by
 cases hv with
 |ok=>exact absurd rfl hn
 |long=>exact{_,_,rfl,.inr rfl}
 |bad=>exact{_,_,rfl,.inl rfl}
 |not=>exact{_,_,rfl,.inl rfl}
section
variable{P:Nat->Option Df}(h:HasM0 P){M:Mem}{m:aU}{k L:Nat}
include h
theorem oQ (h52:P 52=some {2,2,i4})(n:Nat){x:D}(hm:bf m)(hv:cE m x .non):ak P (n+10) 52 [m.d,x] M=.ok (.bl true) M:=by
 refine av (aA h52 rfl ?_);simp[i4,C8,qH h n hm hv]
theorem uR (h52:P 52=some {2,2,i4})(n:Nat){x v:D}(hm:bf m)(hx:Th (k+1) L x)(hL:L<=900000)(hv:cE m x v)(hn:v≠.non):ak P (n+10) 52 [m.d,x] M=.ok (.bl false) M:=by
 obtain⟨c,p,ev,hc⟩:=BV hv hn;refine av (aA h52 rfl ?_);simp[i4,C8,oK h n hm hx hL hv hn,ev,hc]
end
inductive i8 (m:aU):D->D->Bool->Prop
 |one (y z v:D) (h1:cE m y v) (hn:v≠.non):i8 m y z false
 |two (y z v:D) (h1:cE m y .non) (h2:cE m z v) (hn:v≠.non):i8 m y z false
 |both (r s:List Nat) (h1:eI m r) (h2:eI m s):i8 m (bF r) (bF s) (decide (ends m r=ends m s))
def zJ {m:aU}{k L:Nat}{y z:D}(hy:Th k L y)(hz:Th k L z):∃b,i8 m y z b:=by
 have h1:=j7 (m:=m) hy;have h2:=j7 (m:=m) hz;generalize gE m y=v at h1;generalize gE m z=u at h2;by_cases e1:v=.non
 ·by_cases e2:u=.non
  ·subst e1 e2;cases h1 with
   | ok r hr => cases h2 with
     |ok s hs=>exact{_,.both r s hr hs}
  ·subst e1;exact{_,.two y z u h1 h2 e2}
 ·exact{_,.one y z v h1 e1}
structure ES (P:Nat->Option Df):Prop where
 is_row:P 52=some {2,2,i4}
 is_rule:P 53=some {2,4,jw}
 need_rules:P 54=some {2,4,dz}
section
variable{P:Nat->Option Df}(h:HasM P)(ha:yG P)(hr_:ES P){M:Mem}{m:aU}{k L:Nat}
include h ha hr_
theorem lU (n:Nat){y z:D}{b:Bool}(hm:bf m)(hy:Th (k+1) L y)(hz:Th (k+1) L z)(hL:L<=900000)(hb:i8 m y z b):ai (ak P (n+13) 53 [m.d,.tup [y,z]] M) λd M'=>d=.bl b/\Sub M M':=by
 refine aA hr_.is_rule rfl ?_;have t2:ak P (n+12) 4 [.int 2,.tup [y,z]] M=.ok (.bl true) M:=by
  refine av (aA h.is_tuple_of rfl ?_);simp[fR,bI]
 cases hb with
 | one y z v h1 hn =>
   simp[jw,t2,eP,uR h.toHasM0 hr_.is_row (n+2) hm hy hL h1 hn];exact .refl
 | two y z v h1 h2 hn =>
   simp[jw,t2,eP,oQ h.toHasM0 hr_.is_row (n+2) hm h1,uR h.toHasM0 hr_.is_row (n+2) hm hz hL h2 hn];exact .refl
 | both r s h1 h2 =>
   simp[jw,t2,eP,oQ h.toHasM0 hr_.is_row (n+2) hm (.ok r h1),oQ h.toHasM0 hr_.is_row (n+2) hm (.ok s h2)];refine aH (t8 h ha n .l .l hm h1 h2) λd M1 ⟨ed,S1⟩=>?_;subst ed;by_cases e:ends m r=ends m s
   ·rw[mv.mpr e];exact .inr ⟨rfl,e,S1⟩
   ·cases q:ir m r s with
    |none=>exact absurd (mv.mp q) e
    |some w=>exact .inl ⟨rfl,e,S1⟩
noncomputable def iK (m:aU)(k L:Nat)(d:D)(b:Bool):Prop:=∃y z,d=D.tup [y,z]/\Th (k+1) L y/\Th (k+1) L z/\i8 m y z b
theorem zH (n:Nat){ds:List D}{i:Nat}{x:D}(hm:bf m)(hL:L<=900000)(hx:ds[i]?=some x)(hb:iK m k L x false)(hg:∀j y,j<i->ds[j]?=some y->iK m k L y true)(hi:i<1000000) :
 jr (ak P (n+14) 54 [m.d,.lst ds] M) (λ_ _=>False) (λx M'=>x=.exc 1 (some (i:Int))/\Sub M M'):=by
 refine fM hr_.need_rules rfl ?_;show ai (dz (ak P (n+13)) [some m.d,some (.lst ds),none,none] M) _;unfold dz;simp only[aF,ij,fo,aY,bh,aT];refine{_,rfl,?_};rw[lY h.q h.need_machine (n+5) (fU hm) `d (fC hm)]
 show ai (ag _ _ [some m.d,some (.lst ds),none,none] M) _;simp only[aF,dS,ib,aT];refine{_,rfl,rfl,?_};refine fE (ds:=b8 0 ds) (λj fl M'=>Sub M M'/\((j<=i/\∃a b,fl=.next [some m.d,some (.lst ds),a,b])\/(i<j/\∃Z,fl=.exc (.exc 1 (some (i:Int))) Z))) (λ_ _ _ e=>rfl) {.refl,.inl {Qy _,none,none,rfl}} ?_ ?_
 ·rintro j e fl M' he ⟨S,hj⟩;rw[cU] at he;obtain⟨y,hy,rfl⟩:=OU.mp he;rcases hj with⟨hj,a,b,rfl⟩|⟨hj,Z,rfl⟩
  ·show ai (ag _ aj [some m.d,some (.lst ds),some (.int ((0+j:Nat):Int)),some y] M') _;rw[Qs];by_cases c:j=i
   ·subst c;rw[hx] at hy;cases hy;obtain⟨y,z,rfl,h1,h2,h3⟩:=hb;refine mR (R:=λM2=>Sub M' M2) ?_ ?_
    ·simp only[lS,eO];rw[bB (az (aw rfl) (az (aw rfl) rfl))];exact aH (lU h ha hr_ n hm h1 h2 hL h3) λd M2 ⟨e,S2⟩=>by rw[e];exact⟨false,rfl,rfl,S2⟩
    ·intro M2 S2;simp only[aF,mC,aT];exact{_,rfl,_,rfl,`a,S.trans S2,.inr {Nat.lt_succ_self _,_,rfl}}
   ·obtain⟨y,z,rfl,h1,h2,h3⟩:=hg j y `a hy
    refine iU (R:=λM2=>Sub M' M2) ?_ ?_
    ·simp only[lS,eO];rw[bB (az (aw rfl) (az (aw rfl) rfl))];exact aH (lU h ha hr_ n hm h1 h2 hL h3) λd M2 ⟨e,S2⟩=>by rw[e];exact⟨true,rfl,rfl,S2⟩
    ·intro M2 S2;exact{S.trans S2,.inl {`a,_,_,rfl}}
  ·exact{S,.inr {`a,_,rfl}}
 ·rintro fl M' ⟨S,hj⟩;have hlt:=(Oy.mp hx).1;have:(b8 0 ds).length=ds.length:=eG ds 0;rcases hj with⟨hj,_⟩|⟨_,Z,rfl⟩
  ·omega
  ·exact⟨rfl,S⟩
theorem BZ (n:Nat){ds:List D}(hm:bf m)(hL:L<=900000)(hg:∀d∈ds,iK m k L d true):ai (ak P (n+14) 54 [m.d,.lst ds] M) λd M'=>d=.non/\Sub M M':=by
 refine aA hr_.need_rules rfl ?_;show ai (dz (ak P (n+13)) [some m.d,some (.lst ds),none,none] M) _;unfold dz;simp only[aF,ij,fo,aY,bh,aT];refine{_,rfl,?_};rw[lY h.q h.need_machine (n+5) (fU hm) `d (fC hm)]
 show ai (ag _ _ [some m.d,some (.lst ds),none,none] M) _;simp only[aF,dS,ib,aT];refine{_,rfl,rfl,?_};refine cy (ds:=b8 0 ds) (λi Z M'=>Sub M M'/\∃a b,Z=[some m.d,some (.lst ds),a,b]) (λ_ _ _ _=>rfl) {.refl,none,none,rfl} ?_ ?_
 ·rintro i e Z M' he ⟨S,a,b,rfl⟩;rw[cU] at he;obtain⟨y,hy,rfl⟩:=OU.mp he;obtain⟨y,z,rfl,h1,h2,h3⟩:=hg y (OV hy);refine{_,rfl,iU (R:=λM2=>Sub M' M2) ?_ ?_}
  ·simp only[lS,eO];rw[bB (az (aw rfl) (az (aw rfl) rfl))];exact aH (lU h ha hr_ n hm h1 h2 hL h3) λd M2 ⟨e,S2⟩=>by rw[e];exact⟨true,rfl,rfl,S2⟩
  ·intro M2 S2;exact{_,rfl,S.trans S2,_,_,rfl}
 ·rintro Z M' ⟨S,a,b,rfl⟩;exact⟨rfl,S⟩
end
section
variable{P:Nat->Option Df}{M:Mem}
def KR (h102:P 102=some {2,5,cZ})(n:Nat){d x v:D}{M':Mem}(e:ak P n 54 [d,x] M=.ok v M'):ak P (n+1) 102 [d,x] M=.ok (.lst [v]) M':=by
 refine aM (aA h102 rfl ?_);show ai (cZ (ak P n) [some d,some x,none,none,none] M) _;unfold cZ;refine bz (dU rfl) (bz (dU rfl) ?_);show ai (ag _ _ [some d,some x,some .non,some (.int 0),none] M) _;simp only[aF,zD,wc,fo,aY,bh,aT];refine{_,rfl,_,rfl,?_};rw[e];exact⟨rfl,rfl⟩
def zj (h102:P 102=some {2,5,cZ})(h75:P 75=some {1,3,eh})(n:Nat){d x v:D}{M':Mem}{i:Int}(hv:v∈oU i)(e:ak P (n+1) 54 [d,x] M=.err v M'):ak P (n+2) 102 [d,x] M=.ok (oB v) M':=by
 have er:=xn h75 n (M:=M') hv;obtain⟨c,p,rfl⟩:=CI hv;refine aM (aA h102 rfl ?_);show ai (cZ (ak P (n+1)) [some d,some x,none,none,none] M) _;unfold cZ;refine bz (dU rfl) (bz (dU rfl) ?_);show ai (ag _ _ [some d,some x,some .non,some (.int 0),none] M) _;simp only[aF,zD,wc,fo,aY,bh,aT];refine{_,rfl,_,rfl,?_};rw[e];show ai (ag (aK (fJ (ax (aL .isN (ae 2) gN)) (aO false (aa (ae 3) ah)) (aq 75 (ak P (n+1)) (aa (ae 2) ah)))) aj [some d,some x,some (.exc c p),some (.int 0),none] M') _;refine b7 ?_ ⟨rfl,rfl⟩;show aq 75 (ak P (n+1)) (aa (ae 2) ah) [some d,some x,some (.exc c p),some (.int 0),none] M'=_;exact ji rfl er
def zI (h:HasM0 P)(h54:P 54=some {2,4,dz})(n:Nat){k L:Nat}{d r:D}(hd:Th k L d)(hL:L<=100)(hb:eT d=false):ak P (n+9) 54 [d,r] M=.err (.exc 3 none) M:=by
 refine fD (fM h54 rfl ?_);show ai (dz (ak P (n+8)) [some d,some r,none,none] M) _;unfold dz;simp only[aF,ij,fo,aY,bh,aT];refine{_,rfl,?_};rw[r8 h.q h.need_machine n hd hL hb];exact⟨rfl,rfl⟩
end
def Ad {M:Mem}{l:List D}(hp:l.all (aC 63)=true):br .ne (.lst l) (.lst []) M=some (!l.isEmpty):=by
 refine iY (v:=l.isEmpty) hp rfl ?_;cases l<;>rfl
def F6 {w:GW}{gc:GT}{Z:Env}{M:Mem}{ds:List D}{k:D->Mem->Prop}(f:D->Bool)(hw:ai (w Z M) λwk M'=>M'=M/\wk M=some ds)(hz:ds.length<=sz)(he:∀d∈ds,gc (some d::Z) M=.ok (!f d) M)(hk:k (.bl (!ds.all f)) M) :
 ai (aL .ne (bU false 1 (.one 0) w (lG gc (bR (gI 1)))) (aO false ah) Z M) k:=by
 simp only[eU,gj,jM,bh,bx];refine aH hw λwk M' ⟨e1,e2⟩=>?_;subst e1;refine mY (λd=>!f d) (λ_=>.int 1) hz e2 (λd hd=>{some d::Z,rfl,he d hd,λ_=>rfl}) ?_;refine{OI (by rw[OM];exact List.length_filter_le _ _) hz,ay `d,_,Ad ?_,?_}
 ·rw[OJ];intro x hx;obtain⟨_,_,rfl⟩:=Pt.mp hx;rfl
 ·rw[mh];exact hk
noncomputable def va (c:Call):GS:=(ag (aQ (ax (aL .ne (bU false 1 (.one 0) (eF (ae 3)) (lG (ax (aL .notN (aq 90 c (aa (ae 1) (aa (ae 0) ah))) gN)) (bR (gI 1)))) (aO false ah))) (ag (aK (aO false (aa (gS "rule") (aa (ae 2) ah)))) aj) aj) (ag (aQ (ax (aL .ne (aq 44 c (aa (ae 0) (aa (aE (ae 3) (gI 0)) ah))) (aq 44 c (aa (ae 0) (aa (aE (ae 3) (gI 1)) ah))))) (ag (aK (aO false (aa (gS "rule") (aa (ae 2) ah)))) aj) aj) aj))
def u9 (c:Call):cY c=ag (aQ (bC (ax (aq 71 c (aa (ae 0) ah)))) (ag (aK (aO false (aa (gS "machine") ah))) aj) aj) (ag (dF (.tup [2,3]) (iF (ae 1)) (va c)) (ag (aK (aO false (aa gN ah))) aj)):=rfl
section
variable{P:Nat->Option Df}{M:Mem}{m:aU}{k L:Nat}
def CQ (h:i9 P)(h90:P 90=some {2,4,cg})(n:Nat){x1 x2:Option D}{y z:D}(hm:bf m)(hy:Th (k+1) L y)(hz:Th (k+1) L z)(hL:L<=900000) :
 ai (ax (aL .ne (bU false 1 (.one 0) (eF (ae 3)) (lG (ax (aL .notN (aq 90 (ak P (n+6)) (aa (ae 1) (aa (ae 0) ah))) gN)) (bR (gI 1)))) (aO false ah)) [some m.d,x1,x2,some (.tup [y,z])] M) λb M'=>b=!(isOk (gE m y)&&isOk (gE m z))/\M'=M:=by
 simp only[eO];refine F6 (ds:=[y,z]) (λx=>isOk (gE m x)) ?_ (ay (n:=2) `d) (λd hd=>?_) ?_
 ·simp only[xg,aT];refine{_,rfl,?_};simp;exact⟨rfl,rfl⟩
 ·have hd':Th (k+1) L d:=by
   simp only[OL,Pa,or_false] at hd;rcases hd with rfl|rfl
   ·exact hy
   ·exact hz
  have hs:=j7 (m:=m) hd';have e:=HA h h90 n (M:=M) hm hd' hL hs;have ec:aq 90 (ak P (n+6)) (aa (ae 1) (aa (ae 0) ah)) [some d,some m.d,x1,x2,some (.tup [y,z])] M=.ok (oB (gE m d)) M:=(bB (az (aw rfl) (az (aw rfl) rfl))).trans e;have eb:kL (oB (gE m d))=isOk (gE m d):=by
   by_cases q:gE m d=.non
   ·rw[q];rfl
   ·rw[Fz hs q];generalize gE m d=v at q;cases v<;>first|rfl|exact absurd rfl q
  have et:(ax (aL .notN (aq 90 (ak P (n+6)) (aa (ae 1) (aa (ae 0) ah))) gN):GT) [some d,some m.d,x1,x2,some (.tup [y,z])] M=.ok (!kL (oB (gE m d))) M:=by
   unfold ax aL;rw[ec];rfl
  rw[et,eb]
 ·exact{_,rfl,`s,rfl}
def CU (h:mq P)(h44:P 44=some {2,5,cW})(n:Nat){x1 x2:Option D}{r s:List Nat}(hm:bf m)(h1:eI m r)(h2:eI m s) :
 ai (ax (aL .ne (aq 44 (ak P (n+2)) (aa (ae 0) (aa (aE (ae 3) (gI 0)) ah))) (aq 44 (ak P (n+2)) (aa (ae 0) (aa (aE (ae 3) (gI 1)) ah)))) [some m.d,x1,x2,some (.tup [bF r,bF s])] M) λb M'=>b=!decide (ends m r=ends m s)/\Sub M M':=by
 have i0:∀M:Mem,aE (ae 3) (gI 0) [some m.d,x1,x2,some (.tup [bF r,bF s])] M=.ok (bF r) M:=λM=>rfl;have i1:∀M:Mem,aE (ae 3) (gI 1) [some m.d,x1,x2,some (.tup [bF r,bF s])] M=.ok (bF s) M:=λM=>rfl;simp only[eO,eU];rw[bB (az (aw rfl) (az (i0 M) rfl))];refine aH (iP h h44 n (M:=M) hm h1.2) λd M1 ⟨ed,S1⟩=>?_;subst ed;rw[bB (az (aw rfl) (az (i1 M1) rfl))];refine aH (iP h h44 n (M:=M1) hm h2.2) λd M2 ⟨ed,S2⟩=>?_;subst ed;exact{_,sr,_,rfl,rfl,S1.trans S2}
def wb (h:HasM0 P){y v:D}(hm:bf m)(hy:Th (k+1) L y)(hL:L<=900000)(hv:cE m y v)(hn:v≠.non):isOk (gE m y)=false:=by
 have e1:=oK h 0 (M:=[]) hm hy hL hv hn;have hs:=j7 (m:=m) hy;generalize gE m y=u at hs;by_cases q:u=.non
 ·subst q;rw[qH h 0 (M:=[]) hm hs] at e1;cases e1
 ·cases u<;>first|rfl|exact absurd rfl q
def uf (h:HasM0 P){y:D}(hm:bf m)(hy:Th (k+1) L y)(hL:L<=900000)(hv:cE m y .non):isOk (gE m y)=true:=by
 have e1:=qH h 0 (M:=[]) hm hv;have hs:=j7 (m:=m) hy;generalize gE m y=u at hs;by_cases q:u=.non
 ·rw[q];rfl
 ·rw[oK h 0 (M:=[]) hm hy hL hs q] at e1;cases e1
def qX (hM:HasM0 P)(hw:i9 P)(hb:mq P)(h90:P 90=some {2,4,cg})(h44:P 44=some {2,5,cW})(n:Nat){x1:Option D}{d:D}{b:Bool}{j:Nat}(hm:bf m)(hL:L<=900000)(hd:iK m k L d b) :
 ai (va (ak P (n+6)) [some m.d,x1,some (nD j),some d] M) λfl M'=>Sub M M'/\fl=if b=true then .next [some m.d,x1,some (nD j),some d] else .ret (.lst [.str "rule",nD j]):=by
 obtain⟨y,z,rfl,hy,hz,hr⟩:=hd;have er:=CQ hw h90 n (x1:=x1) (x2:=some (nD j)) (M:=M) hm hy hz hL;have rt:∀M':Mem,Sub M M'->∀rest:GS,ai ((ag (aK (aO false (aa (gS "rule") (aa (ae 2) ah)))) aj) [some m.d,x1,some (nD j),some (.tup [y,z])] M') (gK rest λfl M'=>Sub M M'/\fl=.ret (.lst [.str "rule",nD j])):=λM' S rest=>b7 (lE (az rfl (az (aw rfl) rfl)) (Pk rfl)) ⟨S,rfl⟩;unfold va;cases hr with
 | one y z v h1 hn =>
   rw[wb hM hm hy hL h1 hn] at er;refine mR (R:=λM2=>M2=M) er ?_;rintro M2 rfl;exact rt _ .refl _
 | two y z v h1 h2 hn =>
   rw[wb hM hm hz hL h2 hn,Bool.and_false] at er;refine mR (R:=λM2=>M2=M) er ?_;rintro M2 rfl;exact rt _ .refl _
 | both r s h1 h2 =>
   rw[uf hM hm hy hL (.ok r h1),uf hM hm hz hL (.ok s h2)] at er;refine iU (R:=λM2=>M2=M) er ?_;rintro M2 rfl;have ee:=CU hb h44 (n+4) (x1:=x1) (x2:=some (nD j)) (M:=M2) hm h1 h2;by_cases q:ends m r=ends m s
   ·simp only[q,decide_true,Bool.not_true] at ee ⊢;exact iU (R:=λM3=>Sub M2 M3) ee λM3 S=>⟨S,rfl⟩
   ·simp only[q,decide_false,Bool.not_false] at ee ⊢;exact mR (R:=λM3=>Sub M2 M3) ee λM3 S=>rt _ S _
def AK (hM:HasM0 P)(hw:i9 P)(hb:mq P)(h90:P 90=some {2,4,cg})(h44:P 44=some {2,5,cW})(h103:P 103=some {2,4,cY})(n:Nat){ds:List D}{i:Nat}{x:D}(hm:bf m)(hL:L<=900000)(hx:ds[i]?=some x)(hf:iK m k L x false)(hg:∀j y,j<i->ds[j]?=some y->iK m k L y true) :
 ai (ak P (n+7) 103 [m.d,.lst ds] M) λd M'=>d=.lst [.str "rule",nD i]/\Sub M M':=by
 refine aA h103 rfl ?_;show ai (cY (ak P (n+6)) [some m.d,some (.lst ds),none,none] M) _;rw[u9];refine aG (aM (by simp[kz hw (n+1) (fU hm) `d `d,fC hm])) ?_
 simp only[aF,dS,ib,aT];refine{_,rfl,rfl,?_};refine fE (ds:=b8 0 ds) (λj fl M'=>Sub M M'/\((j<=i/\∃a b,fl=.next [some m.d,some (.lst ds),a,b])\/(i<j/\fl=.ret (.lst [.str "rule",nD i])))) (λ_ _ _ e=>rfl) {.refl,.inl {Qy _,none,none,rfl}} ?_ ?_
 ·rintro j e fl M' he ⟨S,hj⟩;rw[cU] at he;obtain⟨y,hy,rfl⟩:=OU.mp he;rcases hj with⟨hj,a,b,rfl⟩|⟨hj,rfl⟩
  ·show ai (va _ [some m.d,some (.lst ds),some (.int ((0+j:Nat):Int)),some y] M') _;rw[Qs];by_cases c:j=i
   ·subst c;rw[hx] at hy;cases hy;exact aH (qX hM hw hb h90 h44 n hm hL hf) λfl M2 ⟨S2,e⟩=>{S.trans S2,.inr {Nat.lt_succ_self _,e}}
   ·exact aH (qX hM hw hb h90 h44 n hm hL (hg j y `a hy)) λfl M2 ⟨S2,e⟩=>{S.trans S2,.inl {`a,_,_,e}}
  ·exact{S,.inr {`a,rfl}}
 ·rintro fl M' ⟨S,hj⟩;have hlt:=(Oy.mp hx).1;have:(b8 0 ds).length=ds.length:=eG ds 0;rcases hj with⟨hj,_⟩|⟨_,rfl⟩
  ·omega
  ·exact⟨rfl,S⟩
def CS (hM:HasM0 P)(hw:i9 P)(hb:mq P)(h90:P 90=some {2,4,cg})(h44:P 44=some {2,5,cW})(h103:P 103=some {2,4,cY})(n:Nat){ds:List D}(hm:bf m)(hL:L<=900000)(hg:∀d∈ds,iK m k L d true) :
 ai (ak P (n+7) 103 [m.d,.lst ds] M) λd M'=>d=.lst [.non]/\Sub M M':=by
 refine aA h103 rfl ?_;show ai (cY (ak P (n+6)) [some m.d,some (.lst ds),none,none] M) _;rw[u9];refine aG (aM (by simp[kz hw (n+1) (fU hm) `d `d,fC hm])) ?_
 simp only[aF,dS,ib,aT];refine{_,rfl,rfl,?_};refine cy (ds:=b8 0 ds) (λi Z M'=>Sub M M'/\∃a b,Z=[some m.d,some (.lst ds),a,b]) (λ_ _ _ _=>rfl) {.refl,none,none,rfl} ?_ ?_
 ·rintro i e Z M' he ⟨S,a,b,rfl⟩;rw[cU] at he;obtain⟨y,hy,rfl⟩:=OU.mp he;refine{_,rfl,?_};show ai (va _ [some m.d,some (.lst ds),some (.int ((0+i:Nat):Int)),some y] M') _;rw[Qs];exact aH (qX hM hw hb h90 h44 n hm hL (hg y (OV hy))) λfl M2 ⟨S2,e⟩=>{_,e,S.trans S2,_,_,rfl}
 ·rintro Z M' ⟨S,a,b,rfl⟩;exact⟨rfl,S⟩
def CT (hw:i9 P)(h103:P 103=some {2,4,cY})(n:Nat){d r:D}(hd:Th k L d)(hk:k<=60)(hL:L+1<=100)(hf:eT d=false):ak P (n+7) 103 [d,r] M=.ok (.lst [.str "machine"]) M:=by
 refine av (aA h103 rfl ?_);show ai (cY (ak P (n+6)) [some d,some r,none,none] M) _;rw[u9];refine iy (aM (by simp[kz hw (n+1) hd hk hL,hf])) ?_
 exact b7 (lE (az rfl rfl) (Pk rfl)) ⟨rfl,rfl⟩
end
def sj {p:D->Bool->Prop}:∀{ds:List D},(∀d∈ds,∃b,p d b)->(∀d∈ds,p d true)\/∃(i:Nat) (x:D),ds[i]?=some x/\p x false/\∀j y,j<i->ds[j]?=some y->p y true
 |[],_=>.inl λ_ h=>nomatch h
 | d :: ds, h => by
   obtain⟨b,hb⟩:=h d OT;cases b with
   |false=>exact .inr {0,d,rfl,hb,λj y hj=>absurd hj (Nat.not_lt_zero _)}
   | true =>
     rcases sj (ds:=ds) λx hx=>h x (ON _ hx) with q|⟨i,x,h1,h2,h3⟩
     ·exact .inl λx hx=>(OL.mp hx).elim (λe=>e ▸ hb) (q x)
     ·refine .inr {i+1,x,h1,h2,λj y hj hy=>?_};cases j with
      |zero=>cases hy;exact hb
      |succ j=>exact h3 j y `a hy
structure Has12 (P:Nat->Option Df):Prop where
 m:HasM P
 a:yG P
 r:ES P
 w:i9 P
 b:mq P
 s:nY P
 h44:P 44=some {2,5,cW}
 h75:P 75=some {1,3,eh}
 h90:P 90=some {2,4,cg}
 h102:P 102=some {2,5,cZ}
 h103:P 103=some {2,4,cY}
section
variable{P:Nat->Option Df}{m:aU}{k L:Nat}(h:Has12 P)
include h
theorem Bz {ds:List D}(hm:bf m)(hL:L<=900000)(hl:ds.length<=1000)(hd:∀d∈ds,∃b,iK m k L d b):∃v,(∀M:Mem,ai (ak P 39 102 [m.d,.lst ds] M) λd M'=>d=v/\Sub M M')/\(∀M:Mem,ai (ak P 39 103 [m.d,.lst ds] M) λd M'=>d=v/\Sub M M')/\(v=.lst [.non]\/∃i:Nat,v=.lst [.str "rule",nD i]):=by
 rcases sj hd with q|⟨i,x,h1,h2,h3⟩
 ·refine{_,λM=>?_,λM=>CS h.m.toHasM0 h.w h.b h.h90 h.h44 h.h103 32 hm hL q,.inl rfl};obtain⟨d,M',e,rfl,S⟩:=kC.mp (BZ h.m h.a h.r 24 (M:=M) hm hL q);rw[KR h.h102 38 e];exact⟨rfl,S⟩
 ·refine{_,λM=>?_,λM=>AK h.m.toHasM0 h.w h.b h.h90 h.h44 h.h103 32 hm hL h1 h2 h3,.inr ⟨i,rfl⟩};have hi:=(Oy.mp h1).1;have q:=zH h.m h.a h.r 24 (M:=M) hm hL h1 h2 h3 `a
  cases e:ak P 38 54 [m.d,.lst ds] M with
  |ok d M'=>rw[e] at q;exact q.elim
  |bad=>rw[e] at q;exact q.elim
  | err y M' =>
    rw[e] at q;obtain⟨rfl,S⟩:=q;rw[zj h.h102 h.h75 37 (i:=(i:Int)) (by simp[oU]) e]
    exact⟨rfl,S⟩
end
def Eu {a st:GE}{Z:Env}{M:Mem}{k:D->Mem->Prop}(ha:ai (a Z M) λx M'=>∃xs,x=.tup xs/\ai (st Z M') λd M2=>(d=.int 1\/d=.int (-1))/\k (.tup xs) M2/\k (.tup xs.reverse) M2):ai (qQ a st Z M) k:=by
 unfold qQ;rw[bo];refine aH ha ?_;rintro _ M1 ⟨xs,rfl,h⟩;rw[bo];refine aH h ?_;rintro d M2 ⟨rfl|rfl,h1,h2⟩
 ·exact h1
 ·exact h2
def Itm.good {n:Nat}{xs:List D}(h:Itm n xs):Good (6*n) (.lst xs):=by
 have:=h.len;exact(Good.lst λd hd=>(oP (h.all d hd)).2).mono `a
noncomputable def Pr (d:D):Prop:=∃ys zs,d=.tup [.lst ys,.lst zs]/\Itm 42 ys/\Itm 42 zs
def Pr.rule {m:aU}{d:D}(h:Pr d):∃b,iK m 2 200 d b:=by
 obtain⟨ys,zs,rfl,a,b⟩:=h;obtain⟨v,hv⟩:=zJ (m:=m) (a.lst `d).th (b.lst `d).th
 exact{v,_,_,rfl,(a.lst `d).th,(b.lst `d).th,hv}
def Pr.th {d:D}(h:Pr d):Th 4 200 d:=by
 obtain⟨ys,zs,rfl,a,b⟩:=h;refine .tup_of (show 2<=200 by decide) λz hz=>?_
 rcases OL.mp hz with rfl|hz
 ·exact(a.lst `d).th
 ·rw[O7.mp hz];exact(b.lst `d).th
def Pr.good {d:D}(h:Pr d):Good 600 d:=by
 obtain⟨ys,zs,rfl,a,b⟩:=h;refine(Good.tup (b:=252) (ds:=[.lst ys,.lst zs]) λz hz=>?_).mono (Pk rfl);rcases OL.mp hz with rfl|hz
 ·exact a.good
 ·rw[O7.mp hz];exact b.good
def Pr.rows {m:aU}{r s:List Nat}(hm:bf m)(h1:∀i∈r,i<m.deeds.length)(h2:∀i∈s,i<m.deeds.length)(l1:r.length<=42)(l2:s.length<=42):Pr (.tup [bF r,bF s]):={_,_,rfl,qy hm h1 l1,qy hm h2 l2}
def MO (x:D):Prop:=∃ds,x=.lst ds/\ds.length<=9/\∀d∈ds,Pr d
structure A8 (P:Nat->Option Df):Prop extends Has12 P where
 p:HasP P
 t:HasT P
 h35:P 35=some {3,6,eV}
 h49:P 49=some {2,7,eW}
 h57:P 57=some {1,1,gP}
 h101:P 101=some {2,5,dM}
 h104:P 104=some {2,6,f7}
 h105:P 105=some {1,14,nW}
section
variable{P:Nat->Option Df}{M:Mem}{m:aU}
def uc (h57:P 57=some {1,1,gP})(n:Nat){ds:List D}(hl:ds.length<=9)(hd:∀d∈ds,Pr d):ak P (n+1) 57 [.lst ds] M=.ok (.lst ds) M:=by
 refine av (aA h57 rfl ?_);simp[gP];refine{rfl,jv (ds:=ds) id (ay `a) rfl ?_ {ay `o,`s,rfl}}
 intro d hd';obtain⟨ys,zs,rfl,a,b⟩:=hd d hd';have a1:=a.len;have a2:=b.len;refine{_,rfl,av ?_};simp;exact{ay `a,ay `a,ay `a}
def zo (hP:HasP P)(h35:P 35=some {3,6,eV})(hb:mq P)(h44:P 44=some {2,5,cW})(h101:P 101=some {2,5,dM})(n:Nat){p B:Nat}(hm:bf m)(hp:aJ M p B)(hB:B<=600000):ai (ak P (n+4) 101 [.cell p,m.d] M) λd M'=>(d=.non\/Pr d)/\aJ M' p (B+600)/\a7 p M M':=by
 refine aA h101 rfl ?_;show ai (dM (ak P (n+3)) [some (.cell p),some m.d,none,none,none] M) _;unfold dM;simp only[aF,dS,fP,cQ];refine{6,rfl,`d,?_}
 refine qT (ds:=(List.range 6).map λ(k:Nat)=>D.int (k:Int)) (λi Z M'=>aJ M' p (B+i*100)/\a7 p M M'/\∃x2 x3 x4,Z=[some (.cell p),some m.d,x2,x3,x4]) (λd M'=>Pr d/\aJ M' p (B+600)/\a7 p M M') (λ_ _ _ _=>rfl) (λ_ _ _=>rfl) {by simpa using hp,.refl,_,_,_,rfl} ?_ ?_ ?_
 ·rintro i d Z M1 hd ⟨q1,k1,x2,x3,x4,rfl⟩;have hi:i<6:=by
   have:=(Oy.mp hd).1;simpa using this
  refine{_,rfl,?_};refine bQ (k:=λd M'=>∃r:List Nat,d=bF r/\eI m r/\r.length<=3/\aJ M' p (B+i*100+50)/\a7 p M1 M') ?_ ?_
  ·rw[bB (az (aw rfl) (az (aw rfl) (az rfl rfl)))];exact nv hP h35 n hm q1 `a (mo:=3) `d
  rintro _ M2 ⟨r,rfl,hr,lr,q2,k2⟩;refine bQ (k:=λd M'=>∃r:List Nat,d=bF r/\eI m r/\r.length<=3/\aJ M' p (B+i*100+50+50)/\a7 p M2 M') ?_ ?_
  ·rw[bB (az (aw rfl) (az (aw rfl) (az rfl rfl)))];exact nv hP h35 n hm q2 `a (mo:=3) `d
  rintro _ M3 ⟨s,rfl,hs,ls,q3,k3⟩;show ai (ag _ _ [some (.cell p),some m.d,some d,some (bF r),some (bF s)] M3) _;have et:ai ((ax (aL .ne (aq 44 (ak P (n+3)) (aa (ae 1) (aa (ae 3) ah))) (aq 44 (ak P (n+3)) (aa (ae 1) (aa (ae 4) ah)))):GT) [some (.cell p),some m.d,some d,some (bF r),some (bF s)] M3) λb M'=>b=!decide (ends m r=ends m s)/\Sub M3 M':=by
   simp only[eO,eU];rw[bB (az (aw rfl) (az (aw rfl) rfl))];refine aH (iP hb h44 (n+1) (M:=M3) hm hr.2) λd M4 ⟨ed,S1⟩=>?_;subst ed;rw[bB (az (aw rfl) (az (aw rfl) rfl))];refine aH (iP hb h44 (n+1) (M:=M4) hm hs.2) λd M5 ⟨ed,S2⟩=>?_;subst ed;exact{_,sr,_,rfl,rfl,S1.trans S2}
  have K3:=(k1.trans k2).trans k3;by_cases q:ends m r=ends m s
  ·simp only[q,decide_true,Bool.not_true] at et;exact iU (R:=λM4=>Sub M3 M4) et λM4 S=>.inl {_,rfl,(S.pen q3).mono `a,S.to K3,_,_,_,rfl}
  ·simp only[q,decide_false,Bool.not_false] at et;exact mR (R:=λM4=>Sub M3 M4) et λM4 S=>b7 (qt (aw rfl) (aw rfl)) (.inr {_,rfl,.rows hm hr.2 hs.2 `a `a,(S.pen q3).mono `a,S.to K3})
 ·rintro Z M1 ⟨q1,k1,x2,x3,x4,rfl⟩;simp only[OM,PX] at q1;exact({.inl rfl,q1,k1}:(D.non=.non\/Pr D.non)/\_/\_)
 ·rintro d M1 ⟨a,b,c⟩;exact{.inr a,b,c}
variable(h:A8 P)
include h
theorem xo (n:Nat){p B:Nat}(hm:bf m)(hp:aJ M p B)(hB:B<=500000):ai (ak P (n+7) 104 [.cell p,m.d] M) λd M'=>Pr d/\aJ M' p (B+700)/\a7 p M M':=by
 refine aA h.h104 rfl ?_;show ai (f7 (ak P (n+6)) [some (.cell p),some m.d,none,none,none,none] M) _;unfold f7;refine ft h.p (n+4) (many:=5) rfl rfl hp `a `d `d λway M1 hwy q1 k1=>?_
 refine bQ (k:=λd M'=>∃r:List Nat,d=bF r/\eI m r/\r.length<=3/\aJ M' p (B+1+50)/\a7 p M1 M') ?_ ?_
 ·rw[bB (az (aw rfl) (az (aw rfl) (az rfl rfl)))];exact nv h.p h.h35 (n+3) hm q1 `a (mo:=3) `d
 rintro _ M2 ⟨r,rfl,hr,lr,q2,k2⟩;have il:Itm 41 (r.map nD):=qy hm hr.2 `a
 have lr':(r.map nD).length<=3:=by simpa using lr
 refine ft h.p (n+4) (many:=(r.map nD).length+1) rfl (wG rfl) q2 `a `a `a λat_ M3 hat q3 k3=>?_
 have K3:=(k1.trans k2).trans k3;show ai (ag _ _ [some (.cell p),some m.d,some (nD way),some (bF r),some (nD at_),none] M3) _;have nums:∀{Z:Env}{M4:Mem}{B':Nat}{k:D->Mem->Prop},Z[0]?.getD none=some (.cell p)->aJ M4 p B'->B'<=1000000->(∀d M5,(d=.int 1\/d=.int (-1))->aJ M5 p (B'+1)->a7 p M4 M5->k d M5)->ai (aE (aO false (aa (gI 1) (aa (fH (gI 1)) ah))) (aq 31 (ak P (n+6)) (aa (ae 0) (aa (gI 2) ah))) Z M4) k:=λ{Z M4 B' k} e0 q hb hk=>aH (uY h.p (n+4) (many:=2) (xs:=[.int 1,.int (-1)]) e0 rfl q hb `d `d rfl rfl) λd M5 ⟨hd,q5,k5⟩=>hk d M5 (by simpa using hd) q5 k5
 refine cS (sZ (c:=2) rfl) (λ_=>?_) λ_=>?_
 ·refine bQ (k:=λd M'=>(d=.non\/Pr d)/\aJ M' p (B+52+600)/\a7 p M3 M') ?_ ?_
  ·rw[bB (az (aw rfl) (az (aw rfl) rfl))];exact zo h.p h.h35 h.b h.h44 h.h101 (n+2) hm (q3.mono `a) `a
  rintro d M4 ⟨hd,q4,k4⟩;rcases hd with rfl|hd
  ·exact b7 (jT (k:=true) rfl (λ_=>qt rfl rfl) (λz=>nomatch z)) {{[],[],rfl,{`d,λ_ z=>nomatch z},{`d,λ_ z=>nomatch z}},q4.mono `a,K3.trans k4}
  ·refine b7 (v:=d) (jT (k:=false) ?_ (λz=>nomatch z) (λ_=>aw rfl)) {hd,q4.mono `a,K3.trans k4}
   obtain⟨ys,zs,rfl,_⟩:=hd;rfl
 refine cS (jg (c:=2) rfl) (λ_=>?_) λ_=>?_
 ·refine bQ (k:=λd M'=>∃zs,d=.tup [bF r,.lst zs]/\Itm 42 zs/\aJ M' p (B+60)/\a7 p M3 M') ?_ ?_
  ·simp only[gL,aY,bh,aT];refine{_,rfl,?_};rw[dv,dv,xm (xs:=r.map nD) (v:=at_) rfl rfl `a,cx,jM,aY]
   rw[bB (az (aw rfl) (az rfl (az rfl rfl)))];refine aH (BO h.p h.t h.w n q3 `a) ?_
   rintro x M4 ⟨hx,q4,k4⟩;simp only[bh];refine bx.mpr {ay (n:=1) `d,m9.mpr (bx.mpr {ay `o,?_})}
   rw[qS (xs:=r.map nD) (v:=at_) rfl rfl `a,cx]
   exact m9.mpr (bx.mpr {ay `o,ay (n:=2) `d,_,rfl,il.put hx,q4.mono `a,k4})
  rintro _ M4 ⟨zs,rfl,hz,q4,k4⟩;simp only[aF,cb];refine Eu ?_;simp only[aT];refine{_,rfl,_,rfl,nums rfl q4 `a λd M5 hd q5 k5=>{hd,?_,?_}}
  ·exact{{_,_,rfl,il.mono `d,hz},q5.mono `a,(K3.trans k4).trans k5}
  ·exact{{_,_,rfl,hz,il.mono `d},q5.mono `a,(K3.trans k4).trans k5}
 refine cS (jg (c:=3) rfl) (λ_=>?_) λ_=>?_
 ·exact b7 (qt (Iu rfl rfl (C1 rfl) `a) (aw rfl)) {{_,_,rfl,il.put (eC (by have:=hm.d6;omega)),il.mono `d},q3.mono `a,K3}
 ·simp only[aF,cb];refine Eu ?_;simp only[gL,aY,bh];rw[dv];have e0:aO false (aa (gI 0) ah) [some (.cell p),some m.d,some (nD way),some (bF r),some (nD at_),none] M3=.ok (.lst [.int 0]) M3:=rfl;rw[e0,cx];refine aH (uY h.p (n+4) (many:=3) (xs:=[.int 41,.int 41,.int 29]) rfl rfl q3 `a `d `d rfl rfl) ?_
  rintro d M4 ⟨hd,q4,k4⟩;have e1:∃z,z<=42/\fY false .mul (.lst [.int 0]) d M4=.ok (.lst (zeros z)) M4:=by
   simp only[OL,Pa,or_false] at hd;rcases hd with rfl|rfl|rfl
   ·exact{41,`d,rfl}
   ·exact{41,`d,rfl}
   ·exact{29,`d,rfl}
  obtain⟨z,hz,ez⟩:=e1;rw[ez,cx];have e2:au false .mul (aO false (aa (gI 0) ah)) (gI 41) [some (.cell p),some m.d,some (nD way),some (bF r),some (nD at_),none] M4=.ok (.lst (zeros 41)) M4:=rfl;rw[e2,cx];have i1:Itm 42 (zeros z):=(Itm.zeros z).mono hz;have i2:Itm 42 (zeros 41):=(Itm.zeros 41).mono `d
  refine{ay (n:=2) `d,_,rfl,nums rfl q4 `a λd M5 hd q5 k5=>{hd,?_,?_}}
  ·exact{{_,_,rfl,i1,i2},q5.mono `a,(K3.trans k4).trans k5}
  ·exact{{_,_,rfl,i2,i1},q5.mono `a,(K3.trans k4).trans k5}
theorem tN {k L:Nat}{d:D}{ds:List D}(hd:Th k L d)(hk:k<=60)(hL:L+1<=100)(hl:ds.length<=9)(hp:∀d∈ds,Pr d):∃v,(∀M:Mem,ai (ak P 39 102 [d,.lst ds] M) λx M'=>x=v/\Sub M M')/\(∀M:Mem,ai (ak P 39 103 [d,.lst ds] M) λx M'=>x=v/\Sub M M')/\∀M:Mem,ak P 39 40 [v,v] M=.ok (.bl true) M:=by
 cases hb:eT d with
 | false =>
   refine{.lst [.str "machine"],λM=>?_,λM=>?_,λM=>HL h.s 37 `k}
   ·rw[zj h.h102 h.h75 37 (i:=0) (v:=.exc 3 none) (by simp[oU]) (zI h.m.toHasM0 h.r.need_rules 29 hd `a hb)]
    exact{rfl,.refl}
   ·rw[CT h.w h.h103 32 hd hk hL hb];exact{rfl,.refl}
 | true =>
   obtain⟨m,rfl,hm⟩:=Gg hb;obtain⟨v,h1,h2,h3⟩:=Bz h.toHas12 (k:=2) (L:=200) (ds:=ds) hm `d `a λd hd=>(hp d hd).rule
   refine{v,h1,h2,λM=>?_};rcases h3 with rfl|⟨i,rfl⟩
   ·exact lT h.s 38 (ay (n:=1) `d) λd hd=>by
     rw[O7.mp hd];exact av (aA h.s.same rfl (cV rfl))
   ·refine lT h.s 38 (ay (n:=2) `d) λd hd=>?_
    rcases OL.mp hd with rfl|hd
    ·exact rN h.s 37 `k
    ·rw[O7.mp hd];exact zu h.s 37 i
end
def Iy {ds:List D}(hl:ds.length<=9)(hp:∀d∈ds,Pr d):Th 5 200 (.lst ds):=.lst_of `a λd hd=>(hp d hd).th
def B7 {ds:List D}(hl:ds.length<=9)(hp:∀d∈ds,Pr d):Good 20000 (.lst ds):=(Good.lst λd hd=>(hp d hd).good).mono `a
noncomputable def DH (c:Call):GS:=(ag (aI (.one 11) (iE (aa (ae 8) ah))) (ag (aI (.one 12) (aq 57 c (aa (ae 8) ah))) (ag (aQ (eA (bC (ax (aq 40 c (aa (aq 102 c (aa (ae 3) (aa (ae 12) ah))) (aa (aq 103 c (aa (ae 3) (aa (ae 8) ah))) ah))))) (ax (aL .ne (iE (aa (ae 12) ah)) (ae 11)))) rF aj) aj)))
noncomputable def Ey (c:Call):GS:=(ag (aI (.one 8) (aX (.list false) (aa (ae 5) ah))) (ag (dF (.one 9) (dn (au false .add (gI 1) (aq 31 c (aa (ae 1) (aa (gI 2) ah))))) (ag (aI (.one 10) (aq 31 c (aa (ae 1) (aa (au false .add (aX .len (aa (ae 8) ah)) (gI 1)) ah)))) (ag (aI (.one 8) (au false .add (au false .add (cq false false true (ae 8) gN (ae 10)) (aO false (aa (aq 104 c (aa (ae 1) (aa (ae 3) ah))) ah))) (cq false true false (ae 8) (ae 10) gN))) aj))) (ag (jB (ae 6) (ae 8)) aj)))
noncomputable def Ki (c:Call):GS:=(ag (aQ (bC (ax (aq 40 c (aa (aq 102 c (aa (ae 13) (aa (aq 57 c (aa (ae 8) ah)) ah))) (aa (aq 103 c (aa (ae 13) (aa (ae 8) ah))) ah))))) rF aj) aj)
noncomputable def pe (M:Mem)(q n:Nat):Prop:=∃ls,M[q]?=some ls/\ls.length=n/\∀x∈ls,MO x
def pe.keep {M M':Mem}{p q n:Nat}(h:pe M q n)(k:a7 p M M')(hq:q≠p):pe M' q n:=let⟨cs,e,r⟩:=h;{cs,k.get e hq,r}
section
variable{P:Nat->Option Df}{M:Mem}{m:aU}(h:A8 P)
include h
theorem By {ds:List D}{x0 x1 x2 x4 x5 x6 x7 x9 x10 x11 x12 x13:Option D}(hm:bf m)(hl:ds.length<=9)(hp:∀d∈ds,Pr d):ai (DH (ak P 39) [x0,x1,x2,some m.d,x4,x5,x6,x7,some (.lst ds),x9,x10,x11,x12,x13] M) λfl M'=>(∃z11 z12,fl=.next [x0,x1,x2,some m.d,x4,x5,x6,x7,some (.lst ds),x9,x10,z11,z12,x13])/\Sub M M':=by
 obtain⟨v,e1,e2,e3⟩:=tN h (fU hm) `d `d hl hp
 have ht:=Iy hl hp;have hg:=B7 hl hp;unfold DH;refine bz (dU (we (az (aw rfl) rfl) ht `d hg `d)) (bz (dU (ji rfl (uc h.h57 38 hl hp))) ?_)
 show ai (ag _ _ [x0,x1,x2,some m.d,x4,x5,x6,x7,some (.lst ds),x9,x10,some (qr (.lst ds)),some (.lst ds),x13] M) _;refine iU (R:=λM2=>Sub M M2) ?_ λM2 S=>{{_,_,rfl},S};simp only[BD,lS,eO];rw[fx,aY,bB (az (aw rfl) (az (aw rfl) rfl))];refine aH (e1 M) ?_;rintro _ M1 ⟨rfl,S1⟩;rw[aY,bB (az (aw rfl) (az (aw rfl) rfl))];refine aH (e2 M1) ?_;rintro _ M2 ⟨rfl,S2⟩;simp only[bh];rw[e3 M2,cx];refine{true,rfl,?_};show ai (aL .ne (iE (aa (ae 12) ah)) (ae 11) [x0,x1,x2,some m.d,x4,x5,x6,x7,some (.lst ds),x9,x10,some (qr (.lst ds)),some (.lst ds),x13] M2) _;rw[eU,we (az (aw rfl) rfl) ht `d hg `d,cx]
 simp only[aT];exact{_,rfl,_,Jf,_,rfl,rfl,S1.trans S2}
theorem G1 {ds:List D}{bad:D}{Z:Env}(h13:Z[13]?.getD none=some bad)(h8:Z[8]?.getD none=some (.lst ds))(hb:Th 7 7 bad)(hl:ds.length<=9)(hp:∀d∈ds,Pr d):ai (Ki (ak P 39) Z M) λfl M'=>fl=.next Z/\Sub M M':=by
 obtain⟨v,e1,e2,e3⟩:=tN h hb `d `d hl hp
 unfold Ki;refine iU (R:=λM2=>Sub M M2) ?_ λM2 S=>⟨rfl,S⟩;simp only[lS,eO];rw[fx,aY,bB (az (aw h13) (az (ji h8 (uc h.h57 38 hl hp)) rfl))];refine aH (e1 M) ?_;rintro _ M1 ⟨rfl,S1⟩;rw[aY,bB (az (aw h13) (az (aw h8) rfl))];refine aH (e2 M1) ?_;rintro _ M2 ⟨rfl,S2⟩;simp only[bh];rw[e3 M2,cx];exact{true,rfl,rfl,S1.trans S2}
theorem CY {q n B:Nat}{rs:List D}{x0 x2 x4 x7 x8 x9 x10 x11 x12 x13:Option D}(hm:bf m)(hl:rs.length<=5)(hr:∀d∈rs,Pr d)(hq:1<q)(hc:pe M q n)(hn:n<=90)(hp:aJ M 1 B)(hB:B<=400000) :
 ai (Ey (ak P 39) [x0,some (.cell 1),x2,some m.d,x4,some (.lst rs),some (.cell q),x7,x8,x9,x10,x11,x12,x13] M) λfl M'=>(∃z8 z9 z10,fl=.next [x0,some (.cell 1),x2,some m.d,x4,some (.lst rs),some (.cell q),x7,z8,z9,z10,x11,x12,x13])/\pe M' q (n+1)/\aJ M' 1 (B+1500):=by
 unfold Ey;refine bQ (k:=λd M'=>d=.lst rs/\M'=M) ?_ ?_
 ·simp only[dC,aY,bh,aT];exact{_,rfl,l7.mpr (bx.mpr {ay `a,rfl,rfl})}
 rintro _ M0 ⟨rfl,e0⟩;rw[e0];show ai (ag _ _ [x0,some (.cell 1),x2,some m.d,x4,some (.lst rs),some (.cell q),x7,some (.lst rs),x9,x10,x11,x12,x13] M) _;simp only[aF,dS,fP];rw[dv];simp only[cQ];refine aH (fw h.p 37 (many:=2) rfl rfl hp `a `d `d) ?_
 rintro _ M1 ⟨v,rfl,hv,q1,k1⟩;refine iJ.mpr {_,rfl,{`a,`a},?_}
 rw[show(1+(v:Int)).toNat=1+v by omega]
 refine cy (ds:=(List.range (1+v)).map λ(k:Nat)=>D.int (k:Int)) (λi Z M'=>aJ M' 1 (B+1+i*701)/\a7 1 M M'/\∃ss,ss.length=rs.length+i/\(∀d∈ss,Pr d)/\∃x9 x10,Z=[x0,some (.cell 1),x2,some m.d,x4,some (.lst rs),some (.cell q),x7,some (.lst ss),x9,x10,x11,x12,x13]) (λ_ _ _ _=>rfl) {q1,k1,rs,rfl,hr,_,_,rfl} ?_ ?_
 ·rintro i d Z M2 hd ⟨q2,k2,ss,hs,hss,y9,y10,rfl⟩;have hi:i<1+v:=by
   have:=(Oy.mp hd).1;simpa using this
  refine{_,rfl,?_};refine ft h.p 37 (many:=ss.length+1) rfl (wG rfl) q2 `a `a `a λat_ M3 hat q3 k3=>?_
  refine bQ (k:=λd M'=>∃x,d=.lst (ss.take at_++[x]++ss.drop at_)/\Pr x/\aJ M' 1 (B+1+(i+1)*701)/\a7 1 M3 M') ?_ ?_
  ·rw[dv,dv,xm (xs:=ss) (v:=at_) rfl rfl `a,cx,jM,aY]
   rw[bB (az (aw rfl) (az (aw rfl) rfl))];refine aH (xo h 32 hm q3 `a) ?_
   rintro x M4 ⟨hx,q4,k4⟩;simp only[bh];refine bx.mpr {ay (n:=1) `d,m9.mpr (bx.mpr {ay `o,?_})}
   rw[qS (xs:=ss) (v:=at_) rfl rfl `a,cx]
   exact m9.mpr (bx.mpr {ay `o,x,rfl,hx,q4.mono `a,k4})
  rintro _ M4 ⟨x,rfl,hx,q4,k4⟩;refine{_,rfl,q4,(k2.trans k3).trans k4,_,?_,λd hd=>?_,_,_,rfl}
  ·simp;omega
  ·rcases Pe.mp hd with hd|hd
   ·rcases Pe.mp hd with hd|hd
    ·exact hss d (Pw hd)
    ·rw[O7.mp hd];exact hx
   ·exact hss d (Ql hd)
 ·rintro Z M2 ⟨q2,k2,ss,hs,hss,y9,y10,rfl⟩;simp only[OM,PX] at q2 hs;obtain⟨ls,e1,e2,e3⟩:=hc.keep k2 `a
  have lq:=(Oy.mp e1).1;show ai (ag (jB (ae 6) (ae 8)) aj _ M2) _;simp only[aF,zE,aT];refine{_,rfl,_,rfl,q,ls,rfl,e1,?_,{_,_,_,rfl},{ls++[.lst ss],?_,by simp[e2],λx hx=>?_},(q2.setq hq).mono `a}
  ·exact QI (show ls.length<=100 by omega) `d
  ·rw[Pf lq]
  ·rcases Pe.mp hx with hx|hx
   ·exact e3 x hx
   ·rw[O7.mp hx];exact{ss,rfl,`a,hss}
theorem Lr (ns:List Int)(hn:ns.length<=63):∃M,ak P 40 105 [.frz (ns.map D.int)] []=.ok (.bl true) M:=by
 have goal:ai (ak P 40 105 [.frz (ns.map D.int)] []) λd _=>d=.bl true:=by
  refine aA h.h105 rfl ?_;show ai (nW (ak P 39) [some (.frz (ns.map D.int)),none,none,none,none,none,none,none,none,none,none,none,none,none] []) _;unfold nW;refine bQ (k:=λd M'=>d=.cell 1/\aJ M' 1 0) ?_ ?_
  ·rw[bB (az (aw rfl) rfl)];exact Fi h.p 38 hn
  rintro _ M1 ⟨rfl,q1⟩;simp only[aF,dS,fP,cQ];refine{4,rfl,`d,?_}
  refine cy (ds:=(List.range 4).map λ(k:Nat)=>D.int (k:Int)) (λi Z M'=>aJ M' 1 (i*10000)/\∃x2 x3 x4 x5 x6 x7 x8 x9 x10 x11 x12 x13,Z=[some (.frz (ns.map D.int)),some (.cell 1),x2,x3,x4,x5,x6,x7,x8,x9,x10,x11,x12,x13]) (λ_ _ _ _=>rfl) ⟨q1,none,none,none,none,none,none,none,none,none,none,none,none,rfl⟩ ?_ ?_
  ·rintro i dd Z M' hd ⟨q2,x2,x3,x4,x5,x6,x7,x8,x9,x10,x11,x12,x13,rfl⟩;have hi:i<4:=by
    have:=(Oy.mp hd).1;simpa using this
   refine{_,rfl,?_};refine bQ (k:=λd M''=>∃m:aU,d=m.d/\bf m/\aJ M'' 1 (i*10000+300)) ?_ ?_
   ·simp only[fx,aY,bh,cQ];show ai (ak P 39 30 [.cell 1] M') _;refine aH (Fn h.p 38 q2) ?_;rintro _ M3 ⟨rfl,q3,_⟩;show ai (ak P 39 34 [.cell 1,nD 3,nD 2,nD 5] M3) _;exact aH (xq h.p 34 q3 `a `d `d `d `d `d `d) λd M4 ⟨m,e,hm,_,_,_,q4,_⟩=>⟨m,e,hm,q4⟩
   rintro _ M3 ⟨m,rfl,hm,q3⟩;refine bQ (k:=λd M'=>∃q prs,d=.cell q/\1<q/\M'[q]?=some (prs.map pairD)/\prs≠[]/\prs.length<=200/\tD m 3 prs/\aJ M' 1 (i*10000+750)) ?_ ?_
   ·rw[bB (az (aw rfl) (az (aw rfl) rfl))];refine aH (BP h.p h.h35 h.b h.h44 h.h49 35 (M:=M3) hm q3 `a) λd M5 ⟨q,prs,ed,hq,eq,pne,pl,pok,q5,k5⟩=>{q,prs,ed,?_,eq,pne,pl,pok,q5.mono `a}
    have:=q3.lt;omega
   rintro _ M4 ⟨q,prs,rfl,hq1,eq,pne,pl,pok,q4⟩;have lp0:0<prs.length:=List.length_pos_iff.mpr pne;refine bQ (k:=λd M'=>∃rs,d=.lst rs/\rs.length<=5/\(∀d∈rs,Pr d)/\aJ M' 1 (i*10000+800)) ?_ ?_
   ·simp only[gj,fP];refine aH (fw h.p 37 (many:=6) rfl rfl q4 `a `d `d) ?_
    rintro _ M6 ⟨many,rfl,hmany,q6,k6⟩;have e6:=k6.get eq `a
    refine{_,rfl,{`a,`a},?_}
    refine comp_map (ds:=(List.range ((many:Nat):Int).toNat).map λ(k:Nat)=>D.int (k:Int)) (λj acc M'=>(∀d∈acc,Pr d)/\aJ M' 1 (i*10000+751+j)/\M'[q]?=some (prs.map pairD)) (ay `o) (λ_ _ _ _=>rfl) {(λ_ z=>nomatch z),q6.mono `a,e6} ?_ ?_
    ·rintro j d acc M' hd _ ⟨ha,q',e'⟩;have hj:j<6:=by
      have:=(Oy.mp hd).1;simp at this;omega
     refine{_,rfl,?_};show ai (aE (ae 5) (aq 31 (ak P 39) (aa (ae 2) (aa (aX .len (aa (ae 5) ah)) ah))) [some d,some (.frz (ns.map D.int)),some (.cell 1),some dd,some m.d,some (.cell q),x5,x6,x7,x8,x9,x10,x11,x12,x13] M') _;simp only[fK,aT];have el:aX .len (aa (ae 5) ah) [some d,some (.frz (ns.map D.int)),some (.cell 1),some dd,some m.d,some (.cell q),x5,x6,x7,x8,x9,x10,x11,x12,x13] M'=.ok (nD prs.length) M':=by
      refine av ?_;simp only[dC,aY,bh,aT];exact{_,rfl,oO.mpr {_,e',by rw[OM],rfl}}
     refine{_,rfl,aH (fw h.p 37 (many:=prs.length) rfl el q' `a lp0 `a) ?_}
     rintro _ M7 ⟨at_,rfl,hat,q7,k7⟩;have e7:=k7.get e' `a
     refine{pairD prs[at_],?_,λd hd=>?_,q7.mono `a,e7}
     ·show(M7[q]?).bind (λds=>(bw ds.length (at_:Int)).bind λj=>ds[j]?)=_;rw[e7];show(bw (prs.map pairD).length (at_:Int)).bind (λj=>(prs.map pairD)[j]?)=_;rw[eD (by simpa using hat)]
      simp[hat]
     ·rcases Pe.mp hd with z|z
      ·exact ha d z
      ·rw[O7.mp z];have ok:=pok _ (Px hat);exact .rows hm ok.r1.2 ok.r2.2 (OI ok.l1 `d) (OI ok.l2 `d)
    ·rintro acc M7 hl7 ⟨ha,q7,_⟩;simp at hl7 q7;exact bx.mpr {ay `a,acc,rfl,`a,ha,q7.mono `a}
   rintro _ M5 ⟨rs,rfl,hl5,hr5,q5⟩;refine bQ (k:=λd M'=>d=.cell M5.length/\pe M' M5.length 2/\aJ M' 1 (i*10000+800)) ?_ ?_
   ·have e0:aO false (aa (bH (aa (au false .mul (aO false (aa (gI 0) ah)) (gI 40)) (aa (au false .mul (aO false (aa (gI 0) ah)) (gI 40)) ah))) ah) [some (.frz (ns.map D.int)),some (.cell 1),some dd,some m.d,some (.cell q),some (.lst rs),x6,x7,x8,x9,x10,x11,x12,x13] M5=.ok (.lst [.tup [.lst (zeros 40),.lst (zeros 40)]]) M5:=rfl;have e1:=G7 (M:=M5) e0 (b:=ae 5) (ys:=rs) (aw rfl) `o
    show ai (aO true (aa (ae 5) (aa _ ah)) [some (.frz (ns.map D.int)),some (.cell 1),some dd,some m.d,some (.cell q),some (.lst rs),x6,x7,x8,x9,x10,x11,x12,x13] M5) _;rw[jM,az (aw rfl) (az e1 rfl),cx];refine nA.mpr {ay (n:=2) `d,rfl,{_,List.getElem?_concat_length,rfl,λx hx=>?_},q5.app}
    have iz:Itm 42 (zeros 40):=(Itm.zeros 40).mono `d
    rcases OL.mp hx with rfl|hx
    ·exact{rs,rfl,`a,hr5}
    ·rw[O7.mp hx];refine{_,rfl,by simp;omega,λd hd=>?_}
     rcases OL.mp hd with rfl|hd
     ·exact{_,_,rfl,iz,iz}
     ·exact hr5 d hd
   rintro _ M6 ⟨rfl,c6,q6⟩;have hq6:1<M5.length:=q5.lt;generalize M5.length=z at c6 hq6;show ai (ag _ _ [some (.frz (ns.map D.int)),some (.cell 1),some dd,some m.d,some (.cell q),some (.lst rs),some (.cell z),x7,x8,x9,x10,x11,x12,x13] M6) _;simp only[aF,dS,fP,cQ];refine{4,rfl,`d,?_}
   refine cy (ds:=(List.range 4).map λ(k:Nat)=>D.int (k:Int)) (λj Z M'=>pe M' z (2+j)/\aJ M' 1 (i*10000+800+j*1500)/\∃x7 x8 x9 x10,Z=[some (.frz (ns.map D.int)),some (.cell 1),some dd,some m.d,some (.cell q),some (.lst rs),some (.cell z),x7,x8,x9,x10,x11,x12,x13]) (λ_ _ _ _=>rfl) {c6,q6,_,_,_,_,rfl} ?_ ?_
   ·rintro j d Z M7 hd ⟨c7,q7,y7,y8,y9,y10,rfl⟩;have hj:j<4:=by
     have:=(Oy.mp hd).1;simpa using this
    refine{_,rfl,aH (CY h (M:=M7) (q:=z) (n:=2+j) (B:=i*10000+800+j*1500) (rs:=rs) (x0:=some (.frz (ns.map D.int))) (x2:=some dd) (x4:=some (.cell q)) (x7:=some d) (x8:=y8) (x9:=y9) (x10:=y10) (x11:=x11) (x12:=x12) (x13:=x13) hm hl5 hr5 hq6 c7 `a q7 `a) ?_}
    rintro fl M8 ⟨⟨z8,z9,z10,rfl⟩,c8,q8⟩;exact{_,rfl,c8,q8.mono `a,_,_,_,_,rfl}
   rintro Z M7 ⟨c7,q7,y7,y8,y9,y10,rfl⟩;simp only[OM,PX] at c7 q7;obtain⟨ls,el,ll,hls⟩:=c7;show ai (ag _ _ [some (.frz (ns.map D.int)),some (.cell 1),some dd,some m.d,some (.cell q),some (.lst rs),some (.cell z),y7,y8,y9,y10,x11,x12,x13] M7) _;simp only[aF,dS,xg,aT];refine{_,rfl,rfl,?_};refine cy (ds:=ls) (λj Z M'=>M'[z]?=some ls/\aJ M' 1 (i*10000+6800)/\∃x8 x11 x12,Z=[some (.frz (ns.map D.int)),some (.cell 1),some dd,some m.d,some (.cell q),some (.lst rs),some (.cell z),y7,x8,y9,y10,x11,x12,x13]) (λ_ _ _ h=>h.1) {el,q7.mono `a,_,_,_,rfl} ?_ ?_
   ·rintro j d Z M8 hd ⟨e8,q8,w8,w11,w12,rfl⟩;obtain⟨ds,rfl,hl8,hp8⟩:=hls d (OV hd);refine{_,rfl,aH (By h (M:=M8) (ds:=ds) (x0:=some (.frz (ns.map D.int))) (x1:=some (.cell 1)) (x2:=some dd) (x4:=some (.cell q)) (x5:=some (.lst rs)) (x6:=some (.cell z)) (x7:=y7) (x9:=y9) (x10:=y10) (x11:=w11) (x12:=w12) (x13:=x13) hm hl8 hp8) ?_};rintro fl M9 ⟨⟨z11,z12,rfl⟩,S⟩;exact{_,rfl,S.get e8,S.pen q8,_,_,_,rfl}
   rintro Z M8 ⟨e8,q8,w8,w11,w12,rfl⟩;refine bQ (k:=λd M''=>Th 7 7 d/\M''[z]?=some ls/\aJ M'' 1 (i*10000+6900)) ?_ ?_
   ·rw[bB (az (aw rfl) (az (aw rfl) (az rfl rfl)))];exact aH (vZ h.p h.t h.w 5 28 `d (fU hm) `d `d `d q8 `a) λd M' ⟨a,b,c⟩=>{a,c.get e8 `a,b.mono `a}
   rintro bad M9 ⟨tb,e9,q9⟩;show ai (ag _ _ [some (.frz (ns.map D.int)),some (.cell 1),some dd,some m.d,some (.cell q),some (.lst rs),some (.cell z),y7,w8,y9,y10,w11,w12,some bad] M9) _;obtain⟨last,hlast,elast⟩:∃d,d∈ls/\bZ (.cell z) (.int (-1)) M9=some d:=by
    refine{ls[5],Px _,?_};show(M9[z]?).bind (λds=>(bw ds.length (-1)).bind λj=>ds[j]?)=_;rw[e9];have e5:bw ls.length (-1)=some 5:=by rw[ll];rfl
    show(bw ls.length (-1)).bind (λj=>ls[j]?)=_;rw[e5];exact OW _
   have e3:aO false (aa (ae 5) (aa (aE (ae 6) (fH (gI 1))) (aa (aO false ah) ah))) [some (.frz (ns.map D.int)),some (.cell 1),some dd,some m.d,some (.cell q),some (.lst rs),some (.cell z),y7,w8,y9,y10,w11,w12,some bad] M9=.ok (.lst [.lst rs,last,.lst []]) M9:=by
    refine lE (az (aw rfl) (az ?_ (az rfl rfl))) (Pk rfl);unfold aE;rw[aw (x:=.cell z) rfl];show cK M9 (bZ (.cell z) (.int (-1)) M9)=_;rw[elast];rfl
   simp only[aF,dS,xg];rw[e3,cx];refine{rfl,?_};refine cy (ds:=[.lst rs,last,.lst []]) (λj Z M'=>aJ M' 1 (i*10000+6900)/\∃x8,Z=[some (.frz (ns.map D.int)),some (.cell 1),some dd,some m.d,some (.cell q),some (.lst rs),some (.cell z),y7,x8,y9,y10,w11,w12,some bad]) (λ_ _ _ _=>rfl) {q9,_,rfl} ?_ ?_
   ·rintro j d Z M10 hd ⟨q10,v8,rfl⟩;have hdp:MO d:=by
     have hm':=OV hd;simp only[OL,Pa,or_false] at hm';rcases hm' with rfl|rfl|rfl
     ·exact{rs,rfl,`a,hr5}
     ·exact hls _ hlast
     ·exact{[],rfl,`d,λ_ z=>nomatch z}
    obtain⟨ds,rfl,hl8,hp8⟩:=hdp;refine{_,rfl,aH (G1 h (M:=M10) (ds:=ds) (bad:=bad) rfl rfl tb hl8 hp8) ?_};rintro fl M11 ⟨rfl,S⟩;exact{_,rfl,S.pen q10,_,rfl}
   ·rintro Z M10 ⟨q10,v8,rfl⟩;exact{_,rfl,q10.mono `a,_,_,_,_,_,_,_,_,_,_,_,_,rfl}
  ·rintro Z M' ⟨q2,x2,x3,x4,x5,x6,x7,x8,x9,x10,x11,x12,x13,rfl⟩;exact(rfl:D.bl true=.bl true)
 obtain⟨d,M,e,rfl⟩:=kC.mp goal;exact⟨M,e⟩
end
end LD
set_option maxHeartbeats 0
namespace K12
open PySem PySem.Spec PyProof.Rows L2 LD
noncomputable def top (i:Nat):Stmt:=PySem.Challenge.pw_leastdeeds_k12_rules_that_hold.main.body.getD i (.Pass {0,0,0,0})
def q0:Str×Tok:=("leastdeeds.wholes",458)
def q1:Str×Tok:=("leastdeeds.machines",469)
def q2:Str×Tok:=("leastdeeds.runs",640)
def q3:Str×Tok:=("leastdeeds.alike",735)
def q4:Str×Tok:=("law_leastdeeds_k12_rules_that_hold",779)
noncomputable def tb:List Ent:=[{0,"is_between",top 17,3,["thing","low","high"],223,q0,gm,false},
 {1,"is_word",top 25,2,["words","thing"],230,q1,kS,false},
 {2,"is_place",top 26,2,["places","thing"],237,q1,jP,false},
 {3,"is_cost",top 27,1,["thing"],244,q1,kT,false},
 {4,"is_tuple_of",top 28,2,["long","thing"],251,q1,fR,false},
 {5,"is_table",top 29,2,["words","thing"],256,q1,jO,false},
 {6,"is_double_table",top 30,2,["words","thing"],261,q1,fj,false},
 {7,"is_turn",top 31,3,["words","places","parts","at","table","price"],268,q1,hU,false},
 {8,"is_join",top 32,3,["words","places","parts","at","other","table","price"],275,q1,hX,false},
 {9,"is_move",top 33,3,["words","places","parts","at","other","price"],282,q1,hV,false},
 {10,"is_put",top 34,3,["words","places","parts","at","word","price"],289,q1,i5,false},
 {11,"is_deed",top 36,3,["words","places","thing","sort","is_sort"],297,q1,hZ,false},
 {12,"is_machine",top 37,1,["thing","words","places","deeds"],302,q1,gk,false},
 {13,"need_machine",top 38,1,["thing"],309,q1,dG,true},
 {15,"beginnings",top 39,1,["machine","words","places","deeds","starts","place"],314,q1,fA,true},
 {16,"is_deed_number",top 40,2,["machine","thing"],321,q1,fO,false},
 {17,"need_numbers",top 41,2,["machine","row","place","thing"],328,q1,cD,true},
 {18,"need_row",top 42,2,["machine","row"],335,q1,d3,true},
 {20,"turned",top 44,2,["deed","standing","sort","at","table","price"],342,q2,oY,false},
 {21,"joined",top 45,2,["deed","standing","sort","at","other","table","price"],349,q2,pd,false},
 {22,"moved",top 46,2,["deed","standing","sort","at","other","price"],356,q2,rg,false},
 {23,"put_in",top 47,2,["deed","standing","sort","at","word","price"],363,q2,oZ,false},
 {24,"done",top 49,2,["deed","standing","new_word","at"],371,q2,vv,false},
 {25,"all_standing",top 50,3,["machine","row","beginning","standings","number"],378,q2,i6,false},
 {46,"ends_of",top 51,2,["machine","row"],383,q2,jx,false},
 {27,"behaviour",top 52,2,["machine","row"],390,q2,jj,true},
 {48,"parted",top 54,3,["machine","one","other","one_ends","other_ends","start","one_end","other_end"],397,q3,pb,true},
 {52,"is_row",top 55,2,["machine","thing"],404,q3,i4,false},
 {53,"is_rule",top 56,2,["machine","thing","one","other"],411,q3,jw,false},
 {54,"need_rules",top 57,2,["machine","rules","number","rule"],418,q3,dz,true},
 {28,"_law_spread",top 59,2,["cell","at","primes","one","two","three"],425,q4,gM,false},
 {29,"_law_open",top 60,1,["script","cells","k","cell"],432,q4,lg,false},
 {30,"_law_anew",top 61,1,["pen"],439,q4,lh,false},
 {31,"_law_take",top 62,2,["pen","many","at","cell","found"],446,q4,og,false},
 {64,"_law_sign_but",top 63,2,["pen","others","all_signs","some"],451,q4,f6,false},
 {65,"_law_any_sign",top 64,1,["pen"],458,q4,f9,false},
 {66,"_law_signed",top 65,2,["pen","text","at"],465,q4,gO,false},
 {67,"_law_is_whole",top 66,1,["thing"],472,q4,kU,false},
 {40,"_law_same",top 67,2,["found","due"],477,q4,d8,false},
 {32,"_law_tab",top 68,2,["pen","words","kind","word","other","found"],482,q4,jQ,false},
 {33,"_law_deed",top 69,3,["pen","words","places","kind","price","at","other"],487,q4,jl,false},
 {34,"_law_machine",top 70,4,["pen","words","places","most","deeds","k","again","deed"],494,q4,gz,false},
 {35,"_law_row",top 71,3,["pen","machine","most","kind","many","found"],499,q4,eV,false},
 {41,"_law_after",top 72,2,["deed","end","here","own"],506,q4,kj,false},
 {42,"_law_begins",top 73,1,["machine"],511,q4,jE,false},
 {44,"_law_ends",top 74,2,["machine","row","found","end","number"],518,q4,cW,false},
 {68,"_law_is_in",top 75,3,["thing","low","high"],525,q4,m7,false},
 {69,"_law_numbers",top 76,4,["thing","many","low","high"],530,q4,i7,false},
 {70,"_law_is_deed",top 77,3,["thing","words","places"],535,q4,bp,false},
 {71,"_law_is_machine",top 78,1,["thing"],540,q4,fk,false},
 {90,"_law_row_due",top 79,2,["machine","row","place","number"],547,q4,cg,false},
 {72,"_law_bent",top 80,3,["pen","thing","deep","kind","pick","number","at","odd","some"],554,q4,jm,false},
 {75,"_law_refusal",top 81,1,["caught","some","words"],561,q4,eh,false},
 {49,"_law_alike_pairs",top 82,2,["pen","machine","some","found","k","one","other"],566,q4,eW,false},
 {101,"_law_unlike_pair",top 83,2,["pen","machine","k","one","other"],573,q4,dM,false},
 {57,"_law_copied",top 84,1,["rules"],578,q4,gP,false},
 {102,"_law_told",top 85,2,["machine","rules","caught","found","e"],585,q4,cZ,false},
 {103,"_law_due",top 86,2,["machine","rules","number","rule"],590,q4,cY,false},
 {104,"_law_odd_rule",top 87,2,["pen","machine","way","one","at","found"],597,q4,f7,false},
 {105,"law",top 88,1,["script","pen","turn","machine","good","rules","lists","k","some","again","at","before","handed","bad"],602,q4,nW,false}]
noncomputable def rs:Rs:={[Dy,zb,Hs,Hm,Hk,Ho,Hl,Hn,Ht,Dx,yU,yW,Dz,DC,yY,DF,DD,Hr,DG,Mi],[vT],[Dq],[Dt,Du,Ds,Dr,Hh],[Dp,Ha,Hb,Hc,G9,yJ,G8,yL]}
def KY:Dj rs:={⟨Bn,yZ,Fb,E6,E4,E8,E5,E7,Fc,Bm,yT,yV,Bo,Bp,yX,Br,Bq,E9,Bs,Hq,trivial⟩,⟨KC,trivial⟩,⟨Ba,trivial⟩,⟨Bj,Bk,Bi,Bh,EZ,trivial⟩,⟨A9,EV,EW,EX,EU,yI,ET,yK,trivial⟩}
noncomputable def te0:List (Str×En):=List.map (λx=>(x,En.bl)) ["ValueError","all","bool","enumerate","int","isinstance","len","list","range","repr","str","tuple","zip"]
noncomputable def te1:List (Str×En):=[("LEAST_WORDS",.int 2),("LONGEST_ROW",.int 40),("MOST_COST",.int 3),("MOST_DEEDS",.int 6),("MOST_PLACES",.int 2),("MOST_WORDS",.int 4),("NEW_WORDS",.dct du),("SORTS",.dct dq),("NoRow",.xi 0),("NoRule",.xi 1),("NoStep",.xk 2),("NoMachine",.xc 3)]
noncomputable def te2:List (Str×En):=[("TooLong",.xc 4),("NoWord",.xk 5),("NoWork",.xk 6),("NoBound",.xk 7),("TooMany",.xk 8),("NoPlace",.xk 9),("NoDeed",.xk 10),("Nothing",.xk 11),("NoText",.xk 12),("NoLine",.xk 13),("DeedError",.de)]
def te:List (Str×En):=te0++te1++te2
noncomputable def tbl:mw:={tb.map (λe=>(e.x,En.fn e.i e.r))++te,[("NoRow","TooLong",0,4)],["number","place"],[("NEW_WORDS",du),("SORTS",dq)],[("NoRow",0),("NoRule",1)],[(147,16,27),(191,12,29),(194,11,24),(249,12,30),(268,12,14),(284,11,20),(300,12,14),(380,12,38),(431,16,55)],[(214,29,38),(220,11,20),(220,44,73)],rs,tb}
def Pg:Nat->Option Df:=tbl.Pg
def KZ:∀c,tb.map (tbl.rd c)=tb.map λe=>some (e.b c):=λc=>by kernel_rfl
def tab:yC tbl:={KY,KZ,by kernel_rfl,by kernel_rfl,λ_ _ _ _ _ _ _=>by kernel_rfl,λ_ _ _ _ _ _ _ _=>by kernel_rfl,λ_ _ _ _ _ _ _ _ _=>by kernel_rfl,λ_ _ _ _ _ _ _ _ _ _=>by kernel_rfl}
noncomputable def fa:Fa:=LD.wO (tb.map λe=>(e.i,e.f)) [(0,44),(1,63),(2,82),(3,94),(4,106),(5,118),(6,130),(7,142),(8,154),(9,166),(10,178),(11,190),(12,202),(13,214)] 24
def Cu:∀ns:List Int,ns.length<=63->∃M,ak Pg 40 105 [.frz (ns.map D.int)] []=.ok (.bl true) M:=Lr (by repeat' (first|rfl|constructor))
end K12
open PySem PySem.W PyProof.Rows K12
set_option maxRecDepth 100000 in
set_option maxHeartbeats 0 in
theorem PySem.Challenge.cw_leastdeeds_k12_rules_that_hold_holds : PySem.Challenge.rw_leastdeeds_k12_rules_that_hold.Holds := by
 w_on;o_law
 refine PySem.W.holds_open (r:=K12.yc) (q:=K12.kq) (loose:=K12.pU) (Xt:=fun s=>PySem.W.xlAt K12.kq [] s&&PySem.W.recOk (PySem.W.RowW.records K12.yc.toRowW) s) (XP:=PySem.W.XL K12.kq []) (Yf:=K12.kH.obs) (Ya:=K12.kH.val) (YP:=K12.kH.says) (N:=10806) K12.Ls K12.kH.of K12.kH.keeps (fun s e=>PySem.W.xl_of s (Qz.mp e).1) PySem.W.XL.keeps `r `r `r (fun s e=>PySem.W.recFacts_of (Qz.mp e).2) `r (by first|assumption|decide +kernel) `k ⟨rfl,rfl,rfl,rfl,rfl,`k⟩ ?hw ?hc
 case hw=>w_witness2
 refine L2.EY (l:=PySem.Challenge.rw_leastdeeds_k12_rules_that_hold) (n:=63) (k:=44) (x:="script") (CX:=fun w=>LD.gJ PySem.Challenge.rw_leastdeeds_k12_rules_that_hold.prog w) (K:=K12.kh) (sp:=fun w=>LD.DN (K12.kh w.params)) rfl `d rfl ⟨rfl,`d,`d,rfl⟩ (fun w h Y=>PySem.W.kIn_of Y) ?F (fun w H a ns hl hO hS=>⟨a,ns,rfl,hS,hO,hl,fun _=>rfl⟩) (fun _ _ _ _ _ z=>let⟨_,_,_,_,_,_,_,_,_,_,q⟩:=z;q)
 case F=>
  intro w mg fa h KX G hmg;have tk:LD.Kn (K12.kh w.params) K12.tb:=⟨by kernel_rfl,by kernel_rfl,by kernel_rfl⟩
  obtain⟨m,fd,F⟩:=LD.vV tk KX G (e:=K12.tb[59]) (Px _);have d_NEW_WORDS:=LD.wF (x:="NEW_WORDS") (P:=w.params) (fa:=K12.fa) (fs:=LD.du) (ad:=364) (es:=#[{hash:=PySem.PyData.keyHash w.params (PySem.Str.ofString "turn"),key:=PySem.Value.str (PySem.Str.ofString "turn") 691,val:=PySem.Value.ref 342},{hash:=PySem.PyData.keyHash w.params (PySem.Str.ofString "join"),key:=PySem.Value.str (PySem.Str.ofString "join") 692,val:=PySem.Value.ref 349},{hash:=PySem.PyData.keyHash w.params (PySem.Str.ofString "move"),key:=PySem.Value.str (PySem.Str.ofString "move") 693,val:=PySem.Value.ref 356},{hash:=PySem.PyData.keyHash w.params (PySem.Str.ofString "put"),key:=PySem.Value.str (PySem.Str.ofString "put") 694,val:=PySem.Value.ref 363}]) (n:=4) KX G (by kernel_rfl) (by kernel_rfl) (by exact LD.hG (LD.hG (LD.hG (LD.hG (LD.As))))) `k `d (by exact .cons ⟨rfl,rfl⟩ (.cons ⟨rfl,rfl⟩ (.cons ⟨rfl,rfl⟩ (.cons ⟨rfl,rfl⟩ (.nil)))))
  have d_SORTS:=LD.wF (x:="SORTS") (P:=w.params) (fa:=K12.fa) (fs:=LD.dq) (ad:=290) (es:=#[{hash:=PySem.PyData.keyHash w.params (PySem.Str.ofString "turn"),key:=PySem.Value.str (PySem.Str.ofString "turn") 575,val:=PySem.Value.ref 268},{hash:=PySem.PyData.keyHash w.params (PySem.Str.ofString "join"),key:=PySem.Value.str (PySem.Str.ofString "join") 576,val:=PySem.Value.ref 275},{hash:=PySem.PyData.keyHash w.params (PySem.Str.ofString "move"),key:=PySem.Value.str (PySem.Str.ofString "move") 577,val:=PySem.Value.ref 282},{hash:=PySem.PyData.keyHash w.params (PySem.Str.ofString "put"),key:=PySem.Value.str (PySem.Str.ofString "put") 578,val:=PySem.Value.ref 289}]) (n:=4) KX G (by kernel_rfl) (by kernel_rfl) (by exact LD.hG (LD.hG (LD.hG (LD.hG (LD.As))))) `k `d (by exact .cons ⟨rfl,rfl⟩ (.cons ⟨rfl,rfl⟩ (.cons ⟨rfl,rfl⟩ (.cons ⟨rfl,rfl⟩ (.nil)))))
  have i_NoRow:=fun base=>LD.uV (fa:=K12.fa) (w:=w) (c:=0) (x:="NoRow") (qual:="NoRow.__init__") (y:="place") (z:="no deed's number at place ") (pm:="leastdeeds.errors") (t:=187) (st:=LD.inC (K12.top 2)) (C:=44) (D:=24) (fI:=41) (cd:=40) KX G (by kernel_rfl) (by kernel_rfl) rfl (by kernel_rfl) (by kernel_rfl) (by kernel_rfl) (by kernel_rfl) ⟨rfl,rfl,rfl,`k,rfl,`k,`k⟩ rfl (fun _ _=>⟨_,rfl⟩) `k rfl rfl rfl rfl (fun _ _=>rfl) (fun _ _ _ _ _ _ _ _=>rfl) PySem.Challenge.rw_leastdeeds_k12_rules_that_hold.prog base
  have i_NoRule:=fun base=>LD.uV (fa:=K12.fa) (w:=w) (c:=1) (x:="NoRule") (qual:="NoRule.__init__") (y:="number") (z:="no rule that holds: number ") (pm:="leastdeeds.errors") (t:=187) (st:=LD.inC (K12.top 3)) (C:=63) (D:=24) (fI:=60) (cd:=59) KX G (by kernel_rfl) (by kernel_rfl) rfl (by kernel_rfl) (by kernel_rfl) (by kernel_rfl) (by kernel_rfl) ⟨rfl,rfl,rfl,`k,rfl,`k,`k⟩ rfl (fun _ _=>⟨_,rfl⟩) `k rfl rfl rfl rfl (fun _ _=>rfl) (fun _ _ _ _ _ _ _ _=>rfl) PySem.Challenge.rw_leastdeeds_k12_rules_that_hold.prog base
  have TO:=fun base=>LD.Ff (base:=base) (P:=PySem.Challenge.rw_leastdeeds_k12_rules_that_hold.prog) (w:=w) (t:=K12.tbl) (fa:=K12.fa) KX G (by kernel_rfl) (LD.He (by kernel_rfl)) ⟨d_NEW_WORDS,d_SORTS,trivial⟩ ⟨i_NoRow base,i_NoRule base,trivial⟩
  have tw:LD.AllP (fun q=>LD.w9 K12.fa (K12.kh w.params) mg q.1 q.2.1 q.2.2.1 q.2.2.2) K12.tbl.tw:=⟨LD.Hv (LD.Aj (x:="NoRow") (f:=44) KX G (by kernel_rfl)) (LD.Aj (x:="TooLong") (f:=106) KX G (by kernel_rfl)) (by kernel_rfl),trivial⟩
  have xf:LD.AllP (fun f=>LD.w5 K12.fa (K12.kh w.params) f) K12.tbl.xf:=⟨LD.yM (by kernel_rfl),LD.yM (by kernel_rfl),trivial⟩
  have e:=hmg.symm.trans m;cases e;exact⟨fd,fun s v=>by
   obtain⟨oc,od,kV,doc,pm,an,cdv,ct,osl,rfl,lk,hcd⟩:=F.ex;exact .of_eq rfl,fun base _ _=>LD.Jw (n:=39) (f:=105) (LD.BA K12.tab tk KX G (TO base) tw.mem xf.mem (by kernel_rfl)) K12.Cu rfl F (LD.qh (e:=K12.tb[59]) (OJ.mp K12.tab.sc K12.tb[59] (Px _))).1 rfl fun c n a b d s H E C hr=>LD.tS (e:=K12.tb[59]) K12.tab (TO base) tw.mem xf.mem (Px _) c n a b d s H E C hr⟩
