import PyProof.Rows.All
import Wide.All
import OpenK.AllK
import Wide.FinOn
import Lean
import PyProof.EqAt
import PyProof.EqKinds
import PyProof.TupleCall
import PyProof.StrOps
import PyProof.MeetsStr
import PyProof.StrLawsJoin
import PySem.Challenge.RW_leastdeeds_k43_whole_mended_rows
set_option Elab.async false
set_option linter.all false
set_option maxRecDepth 100000
set_option tactic.hygienic false
set_option autoImplicit true
set_option relaxedAutoImplicit true
set_option genSizeOfSpec false
set_option genSizeOf false
set_option maxHeartbeats 0
set_option bootstrap.genMatcherCode false
set_option genSizeOf false
noncomputable section
local macro_rules(kind:=«term{_}»)|`({$a:term,*})=>`(⟨$a,*⟩)
local macro_rules(kind:=Lean.Parser.Term.quotedName)|x=>match x[0].isNameLit?.getD .anonymous|>.toString with|"a"=>`(by omega)|"d"=>`(by decide)|"s"=>`(by simp)|"o"=>`(by simp;omega)|"k"=>`(by decide +kernel)|"r"=>`(by rfl)|_=>Lean.Macro.throwUnsupported
local macro_rules|`(tactic|omega)=>`(tactic|first|(simp +arith;done)|lia|omega(config:={}))
abbrev tqa:=@PySem.wpAny_bind
abbrev tqb:=@PySem.wpAny_pure
abbrev tqf:=@PySem.wpAny_field
abbrev tqo:=@PySem.wpAny_holding
abbrev tqp:=@PySem.wpAny_truthy_bool
abbrev OU:=@PySem.W.Frag
abbrev OV:=@List.getElem?_eq_some_iff
abbrev OW:=@PySem.Heap.get?_push_of_some
abbrev OX:=@PySem.Value
abbrev OY:=@List.length_map
abbrev OZ:=@Nat.le_refl
abbrev O0:=@PySem.Shared
abbrev O2:=@Option.some.inj
abbrev O3:=@Bool.and_eq_true
abbrev O4:=@List.getElem?_append_left
abbrev O5:=@List.getElem?_set_ne
abbrev O6:=@List.mem_cons_of_mem
abbrev O7:=@List.size_toArray
abbrev O8:=@Option.map_eq_some_iff
abbrev O9:=@List.length_append
abbrev Pa:=@Nat.le_trans
abbrev Pd:=@List.getElem?_eq_getElem
abbrev Pe:=@PySem.Heap.lt_size
abbrev Pf:=@List.mem_map
abbrev Ph:=@PySem.Heap.get?_push_size
abbrev Pj:=@Nat.lt_of_lt_of_le
abbrev Pk:=@List.all_eq_true
abbrev Pm:=@List.mem_cons_self
abbrev Pn:=@List.map_append
abbrev Pp:=@List.getElem?_append_right
abbrev Pq:=@Bool.false_ne_true
abbrev Pr:=@List.mem_singleton
abbrev Pt:=@List.getElem?_map
abbrev Pu:=@Nat.ne_of_lt
abbrev Pw:=@List.take_of_length_le
abbrev Py:=@List.getElem?_set_self
abbrev Pz:=@Nat.add_sub_cancel_left
abbrev PB:=@Option.bind_eq_some_iff
abbrev PC:=@PySem.World
abbrev PD:=@List.length_cons
abbrev PF:=@List.mem_append_right
abbrev PH:=@PySem.Program
abbrev PJ:=@List.mem_cons
abbrev PK:=@List.lookup_cons
abbrev PL:=@List.mem_append
abbrev PR:=@List.length_take
abbrev PV:=@List.map_cons
abbrev PX:=@Nat.ne_of_gt
abbrev PY:=@List.mem_of_mem_take
abbrev PZ:=@List.mem_of_getElem?
abbrev P9:=@Nat.le_of_ble_eq_true
abbrev Qa:=@List.mem_map_of_mem
abbrev Qb:=@List.all_cons
abbrev Qc:=@PySem.OsState
abbrev Qd:=@PySem.W.kia_one
abbrev Qe:=@PySem.W.SharedT
abbrev Qf:=@beq_eq_false_iff_ne
abbrev Qg:=@Nat.le_add_right
abbrev Qh:=@List.mem_append_left
abbrev Qi:=@List.map_map
abbrev Qj:=@Nat.lt_irrefl
abbrev Qk:=@Ne.symm
abbrev Ql:=@List.length_range
abbrev Qm:=@Iff.rfl
abbrev Qn:=@PyProof.Rows.slot_tuple_getitem
abbrev Qo:=@List.nodup_cons
abbrev Qp:=@List.append_assoc
abbrev Qq:=@List.take_succ
abbrev Qr:=@List.append_nil
abbrev Qs:=@Bool.eq_iff_iff
abbrev Qt:=@PySem.Heap.size_push
abbrev Qu:=@PySem.Env
abbrev Qv:=@List.length_drop
abbrev Qw:=@PyProof.Rows.callWith_type1
abbrev Qx:=@PySem.Around
abbrev Qy:=@PySem.W.mg_of
abbrev Qz:=@List.getD_eq_getElem?_getD
abbrev QA:=@List.exists_of_findSome?_eq_some
abbrev QB:=@Int.toNat_natCast
abbrev QC:=@Array.getElem?_eq_some_iff
abbrev QD:=@PySem.Heap.get?_update_other
abbrev QE:=@PySem.Heap.SameBut
abbrev QF:=@PySem.Heap.SameBut.update
abbrev QG:=@PySem.Heap.get?_update_self
abbrev QH:=@List.length_eq_zero_iff
abbrev QI:=@PySem.AutoSeq1.wpAny_loadPart'
abbrev QJ:=@Bool.or_eq_true
abbrev QK:=@PySem.Params
abbrev QL:=@List.replicate_succ
abbrev QM:=@List.map_congr_left
abbrev QN:=@PySem.DictEntry
abbrev QO:=@Nat.zero_le
abbrev QP:=@List.mem_range
abbrev QR:=@Int.emod_lt_of_pos
abbrev QS:=@Int.emod_nonneg
abbrev QT:=@PySem.Paired
abbrev QU:=@PySem.Obj.data_mapFields
abbrev QV:=@Bool.and_eq_true_iff
abbrev QW:=@Nat.add_assoc
abbrev QX:=@Nat.add_left_cancel
abbrev QY:=@Array.length_toList
abbrev QZ:=@List.getElem_mem
abbrev Q0:=@List.getElem?_replicate
abbrev Q1:=@Int.eq_ofNat_of_zero_le
abbrev Q2:=@PySem.Comprehension
abbrev Q3:=@PySem.W.callWith_K
abbrev Q4:=@Nat.le_of_lt
abbrev Q5:=@Nat.min_eq_left
abbrev Q6:=@List.mem_filter
abbrev Q7:=@List.take_append_drop
abbrev Q8:=@List.length_singleton
abbrev Q9:=@Option.isSome_map
abbrev Ra:=@Nat.lt_succ_of_lt
abbrev Rb:=@List.flatten_cons
abbrev Rf:=@Option.isNone_iff_eq_none
abbrev Rg:=@PySem.mem_of_lookup
abbrev Rh:=@Nat.not_lt_zero
abbrev Ri:=@Nat.lt_of_le_of_lt
abbrev Rj:=@List.find?_eq_none
abbrev Rk:=@Nat.le_succ
abbrev Rl:=@List.findIdx?_eq_some_iff_getElem
namespace HD
open PySem PySem.W
noncomputable def gr (tb:String->Option Builtin)(p:PH)(w:PC)(n0:Nat)(ann:Option OX):Nat->Qe->Thread->Option Qe
 |0,_,_=>none
 | n + 1, s, t => match through t with
   |true=>some s
   | false => match stepOk n0 ann t with
     |false=>none
     | true => match stepT (denote tb) p w s t with
       |some (s',t')=>gr tb p w n0 ann n s' t'
       |none=>none
def qz {tb:String->Option Builtin}{p:PH}{w:PC}{n0:Nat}{ann:Option OX}:∀{n:Nat}{s s':Qe}{t:Thread},gr tb p w n0 ann n s t=some s'->topRun tb p w n0 ann n s.abs t=some s'.abs
 |0,_,_,_,h=>by cases h
 | n + 1, s, s', t, h => by
   unfold gr at h;unfold topRun;cases he:through t with
   |true=>rw[he] at h;cases h;rfl
   | false =>
     rw[he] at h;cases hk:stepOk n0 ann t with
     |false=>rw[hk] at h;cases h
     | true =>
       rw[hk] at h;cases hs:stepT (denote tb) p w s t with
       |none=>rw[hs] at h;cases h
       |some r=>obtain⟨s2,t2⟩:=r;rw[hs] at h;rw[stepT_spec hs];exact qz h
noncomputable def treeOf:List Obj->Nat->BT->BT
 |[],_,t=>t
 |o::r,n,t=>treeOf r (n+1) (t.ins n o)
def xy (P:QK)(os:Qc):Qe:={treeOf (boot_heap P).objs.toList 0 .nil,(boot_heap P).objs.toList.length,(boot_heap P).life,#[],boot_drawn,boot_toks,os}
def boot_abs (P:QK)(os:Qc):(xy P os).abs={boot_heap P,#[],boot_drawn,boot_toks,os}:=by kernel_rfl
noncomputable def ky (p q:PH)(loose:List Str)(Xt:O0->Bool)(g0:Bool)(h0:Heap){α:Type}(Yf:O0->α)(s:O0):=
 ((staticsOk (importedModules p.main.body) h0 s.heap&&namesBound p s.heap&&gensDone s&&laidKept h0 s.heap),openSeen q loose (importedModules p.main.body) Xt g0 s,Yf s)
noncomputable def vP (tb:String->Option Builtin)(p:PH)(w:PC)(n0:Nat)(ann:Option OX):Nat->Qe->Thread->Option (Qe×Thread)
 |0,s,t=>some (s,t)
 | n + 1, s, t => match through t with
   |true=>none
   | false => match stepOk n0 ann t with
     |false=>none
     | true => match stepT (denote tb) p w s t with
       |some (s',t')=>vP tb p w n0 ann n s' t'
       |none=>none
noncomputable def ki (tb:String->Option Builtin)(p:PH)(w:PC)(n0:Nat)(ann:Option OX):Nat->Qe->Thread->Option (Flow×Qe×Code×Pos)
 |0,_,_=>none
 | n + 1, s, t => match endAt 1 t with
   |some f=>some (f,s,t.code,t.pos)
   | none => match stepOk n0 ann t with
     |false=>none
     | true => match stepT (denote tb) p w s t with
       |some (s',t')=>ki tb p w n0 ann n s' t'
       |none=>none
section
variable{tb:String->Option Builtin}{p:PH}{w:PC}{n0:Nat}{ann:Option OX}
def zP:∀{n:Nat}{s s':Qe}{t t':Thread},vP tb p w n0 ann n s t=some (s',t')->topGo tb p w n0 ann n s.abs t=some (s'.abs,t')
 |0,s,s',t,t',h=>by cases h;rfl
 | n + 1, s, s', t, t', h => by
   unfold vP at h;unfold topGo;cases he:through t with
   |true=>rw[he] at h;cases h
   | false =>
     rw[he] at h;cases hk:stepOk n0 ann t with
     |false=>rw[hk] at h;cases h
     | true =>
       rw[hk] at h;cases hs:stepT (denote tb) p w s t with
       |none=>rw[hs] at h;cases h
       |some q=>obtain⟨s2,t2⟩:=q;rw[hs] at h;rw[stepT_spec hs];exact zP h
def pH:∀{n:Nat}{s s':Qe}{t:Thread}{f:Flow}{c:Code}{q:Pos},ki tb p w n0 ann n s t=some (f,s',c,q)->segRun tb p w n0 ann 1 n s.abs t=some (f,s'.abs,c,q)
 |0,_,_,_,_,_,_,h=>by cases h
 | n + 1, s, s', t, f, c, q, h => by
   unfold ki at h;unfold segRun;cases he:endAt 1 t with
   |some g=>rw[he] at h;cases h;rfl
   | none =>
     rw[he] at h;cases hk:stepOk n0 ann t with
     |false=>rw[hk] at h;cases h
     | true =>
       rw[hk] at h;cases hs:stepT (denote tb) p w s t with
       |none=>rw[hs] at h;cases h
       |some x=>obtain⟨s2,t2⟩:=x;rw[hs] at h;rw[stepT_spec hs];exact pH h
def ug {n3 N:Nat}{s s2:Qe}{env:Env}{c:Code}{p' p2 q:Pos}{b:List Stmt}{J:Nat}{α:Type}{f:O0->α}{a:α}
 (h3:ki tb p w n0 ann n3 s (piecesOf (b.take J) env c p' [topFrame q])=some (.next,s2,c,p2))
 (h4:(topRun tb p w n0 ann N s2.abs (restOf (b.drop J) env c p2 [topFrame q])).map f=some a):(topRun tb p w n0 ann (n3+N) s.abs (restOf b env c p' [topFrame q])).map f=some a:=by
 obtain⟨r,e3,e4⟩:=O8.mp h4;have k4:=piece_app (pH h3) e3;rw[Q7] at k4;rw[k4];exact congrArg some e4
def zV {N:Nat}{s2:Qe}{t:Thread}{p' q:PH}{loose:List Str}{Xt:O0->Bool}{g0:Bool}{h0:Heap}{α:Type}{Yf:O0->α}{a b c}
 (h1:(gr tb p w n0 ann N s2 t).map (λs=>(ky p' q loose Xt g0 h0 Yf s.abs).1)=some a) (h2:(gr tb p w n0 ann N s2 t).map (λs=>(ky p' q loose Xt g0 h0 Yf s.abs).2.1)=some b)
 (h3:(gr tb p w n0 ann N s2 t).map (λs=>(ky p' q loose Xt g0 h0 Yf s.abs).2.2)=some c):(topRun tb p w n0 ann N s2.abs t).map (ky p' q loose Xt g0 h0 Yf)=some (a,b,c):=by
 obtain⟨r,e3,rfl⟩:=O8.mp h1;rw[e3] at h2 h3;cases h2;cases h3;rw[qz e3];rfl
def zW {n1 n2 N:Nat}{s s':Qe}{env:Env}{c:Code}{pos p' q:Pos}{t:Thread}{b:List Stmt}{J:Nat}{α:Type}{f:O0->α}{a:α}
 (h1:(vP tb p w n0 ann n1 s t).map (·.2)=some {denote tb (.body b env),c,pos,[topFrame q]}) (h0:endAt 1 (blockOf b env c pos [topFrame q])=some .next)
 (h2:((vP tb p w n0 ann n1 s t).bind λx=>ki tb p w n0 ann n2 x.1 (piecesOf (b.take J) env c pos [topFrame q]))=some (.next,s',c,p'))
 (h3:(topRun tb p w n0 ann N s'.abs (restOf (b.drop J) env c p' [topFrame q])).map f=some a):(topRun tb p w n0 ann (n1+(1+(n2+N))) s.abs t).map f=some a:=by
 obtain⟨⟨s1,t1⟩,e1,e2⟩:=O8.mp h1;have e2:t1={denote tb (.body b env),c,pos,[topFrame q]}:=e2;subst e2;rw[e1] at h2;have h2:ki tb p w n0 ann n2 s1 (piecesOf (b.take J) env c pos [topFrame q])=some (.next,s',c,p'):=h2
 obtain⟨r,e3,e4⟩:=O8.mp h3;have k3:=piece_app (pH h2) e3;rw[Q7] at k3;have hb:segRun tb p w n0 ann 1 1 s1.abs (blockOf b env c pos [topFrame q])=some (.next,s1.abs,c,pos):=by
  show(match endAt 1 (blockOf b env c pos [topFrame q]) with|some f=>some (f,s1.abs,c,pos)|none=>_)=_
  rw[h0]
 have k2:=piece_block hb k3;rw[go_top (zP e1) k2];exact congrArg some e4
end
def uS {p q:PH}{loose:List Str}{Xt:O0->Bool}{α:Type}{Yf:O0->α}{Ya:PC->α}{N:Nat}{g0:Bool}{m0:Nat}{ann:Option OX}
 (open_:∀w:PC,(fencedOpening treeTable p w N).map (λs=>(s.heap,s.gens,s.drawn,s.toks))=some (boot_heap w.params,Array.mk [],boot_drawn,boot_toks))
 (size:∀w:PC,((boot_heap w.params).isNs mainGlobals&&(Array.mk ([]:List GenState)).size==0,(boot_heap w.params).objs.size,(boot_heap w.params).nsMap mainGlobals "__annotations__")=(true,m0,ann))
 (run:∀(w:PC) (os:Qc),(topRun treeTable p w m0 ann N (xy w.params os).abs (topStub p)).map (ky p q loose Xt g0 (boot_heap w.params) Yf)=some (true,openGood q loose,Ya w)):LeftO p q loose Xt Yf Ya N g0:=λw=>by
 obtain⟨⟨h,gs,d,k,os⟩,e,e'⟩:=O8.mp (open_ w);obtain⟨rfl,rfl,rfl,rfl⟩:h=boot_heap w.params/\gs=Array.mk []/\d=boot_drawn/\k=boot_toks:=by simpa using e'
 obtain⟨z1,z2,z3⟩:_/\_/\_:=by simpa only[Prod.mk.injEq] using size w
 obtain⟨s1,r,l⟩:=O8.mp (run w os);obtain⟨l1,l2,l3⟩:_/\_/\_:=by simpa only[ky,Prod.mk.injEq] using l
 rw[boot_abs] at r;have t:topFrom treeTable p w N {boot_heap w.params,Array.mk [],boot_drawn,boot_toks,os}=some s1:=by
  unfold topFrom;dsimp only;rw[z1,z2,z3,r];show(match staticsOk (importedModules p.main.body) (boot_heap w.params) s1.heap&&namesBound p s1.heap&&gensDone s1&&laidKept (boot_heap w.params) s1.heap with|true=>_|false=>_)=_
  rw[l1]
 unfold openEnds;rw[e];show(topFrom treeTable p w N _).map _=_;rw[t];exact congrArg some (Prod.ext l2 l3)
end HD
namespace K43
open PySem
abbrev eN (P:QK)(x:Str)(n:Nat)(v:OX):QN:={PyData.keyHash P x,.str x n,v}
noncomputable def p5 (j:Nat)(s:Stmt):Stmt:=match s with
 |.ClassDef _ _ _ b _ _ _ _ _ _ _=>b.getD j s
 |_=>s
noncomputable def d9 (i:Nat):Stmt:=PySem.Challenge.pw_leastdeeds_k43_whole_mended_rows.main.body.getD i (.Pass {0,0,0,0})
noncomputable def mG (s:Stmt):Arguments:=match s with
 |.FunctionDef _ a _ _ _ _ _ _ _ _=>a
 |_=>{[],[],none,[],[],none,[]}
noncomputable def mF (s:Stmt):List Stmt:=match s with
 |.FunctionDef _ _ b _ _ _ _ _ _ _=>b
 |_=>[]
noncomputable def jU (s:Stmt):Scope:=match s with
 |.FunctionDef _ _ _ _ _ _ sc _ _ _=>sc
 |_=>{kind:=.function,names:=[],isGenerator:=false,isCoroutine:=false}
noncomputable def o1:Obj:={cls:=.type "tuple" ,data:=.seq #[]}
noncomputable def o2 (a:String)(b:Nat)(c:Int)(d:Nat)(e:Int):Obj:={cls:=.type "code" ,data:=.fields #[.str (Str.ofString a) b ,.str (Str.ofString a) (b+1) ,.str ("/claim/cut.py") (b+2) ,.int c 0 ,.int 0 0 ,.int 0 0 ,.int 0 0 ,.int 0 0 ,.ref d ,.bool false ,.int 181 0 ,.ref (d+1) ,.none ,.none ,.none ,.none ,.int e 0 ,.int c 0 ,.str ("/claim/cut.py") (b+4)]}
noncomputable def o3 (a:Nat)(b:Nat)(c:String)(d:Nat):Obj:={cls:=.type "frame" ,slots:=#[some (.ref a) ,some (.ref 3) ,some (.ref b) ,none ,some (.str (Str.ofString c) d) ,none ,some (.ref 0)]}
def o4:Obj:={cls:=.type "builtin_function_or_method" ,data:=.fields #[.builtin "type.__prepare__" ,.type "type"]}
def o5 (P:QK)(a:Nat)(b:String)(c:Int)(d:Nat):Obj:={cls:=.type "dict" ,data:=.dict #[{hash:=PyData.keyHash P ("__module__") ,key:=.str ("__module__") a ,val:=.str ("leastdeeds.errors") 194} ,{hash:=PyData.keyHash P ("__qualname__") ,key:=.str ("__qualname__") (a+2) ,val:=.str (Str.ofString b) (a+1)} ,{hash:=PyData.keyHash P ("__firstlineno__") ,key:=.str ("__firstlineno__") (a+4) ,val:=.int c (a+3)} ,{hash:=PyData.keyHash P ("__static_attributes__") ,key:=.str ("__static_attributes__") (a+5) ,val:=.ref d}] 4}
def o6:Obj:={cls:=.none ,data:=.fields #[]}
def o7 (P:QK)(a:Nat)(b:Int)(c:String)(d:Nat)(e:Nat)(f:String)(g:Nat)(h:Nat):Obj:={cls:=.type "dict" ,data:=.dict #[{hash:=PyData.keyHash P ("__module__") ,key:=.str ("__module__") a ,val:=.str ("leastdeeds.errors") 194} ,{hash:=PyData.keyHash P ("__firstlineno__") ,key:=.str ("__firstlineno__") (a+4) ,val:=.int b (a+3)} ,{hash:=PyData.keyHash P (Str.ofString c) ,key:=.str (Str.ofString c) d ,val:=.ref e} ,{hash:=PyData.keyHash P (Str.ofString f) ,key:=.str (Str.ofString f) (d+2) ,val:=.ref g} ,{hash:=PyData.keyHash P ("__doc__") ,key:=.str ("__doc__") (d+3) ,val:=.none}] h}
def o8 (a:Nat)(b:Nat):Obj:={cls:=.type "getset_descriptor" ,data:=.fields #[.str ("__weakref__") a ,.ref b ,.builtin "ExceptionGroup.__weakref__" ,.none]}
def o9 (a:Nat):Obj:={cls:=.type "super" ,data:=.fields #[.ref a ,.ref a ,.ref a]}
def oH (a:Nat):Obj:={cls:=.type "builtin_function_or_method" ,data:=.fields #[.builtin "object.__init_subclass__" ,.ref a]}
def td:Obj:={cls:=.type "tuple" ,data:=.seq #[.ref 31]}
def II (a:Nat)(b:String):Obj:={cls:=.type "tuple" ,data:=.seq #[.str ("self") a ,.str (Str.ofString b) (a+1)]}
def lH (a:String)(b:String)(c:Nat)(d:Nat):Obj:={cls:=.none ,data:=.func {name:=Str.ofString a ,qualname:=Str.ofString b ,params:=mG (p5 c (d9 d)) ,body:=PySem.FuncBody.stmts (mF (p5 c (d9 d))) ,scope:=jU (p5 c (d9 d)) ,globals:=0 ,closure:=[] ,defaults:=.none ,kwdefaults:=.none ,pyModule:=.none ,code:=.none}}
def gY (a:String)(b:Nat)(c:String)(d:Int)(e:Int)(f:Nat)(g:Int)(h:Nat):Obj:={cls:=.type "code" ,data:=.fields #[.str (Str.ofString a) b ,.str (Str.ofString c) (b+1) ,.str ("/claim/cut.py") (b+2) ,.int d 0 ,.int e 0 ,.int 0 0 ,.int 0 0 ,.int 3 0 ,.ref f ,.bool true ,.int 181 0 ,.ref (f+1) ,.none ,.ref (f+2) ,.ref (f+3) ,.ref (f+4) ,.int g 0 ,.int d 0 ,.str ("/claim/cut.py") h]}
def lG (a:String)(b:String)(c:Nat)(d:Nat)(e:String)(f:Nat)(g:Nat):Obj:={cls:=.type "function" ,data:=.func {name:=Str.ofString a ,qualname:=Str.ofString b ,params:=mG (p5 c (d9 d)) ,body:=PySem.FuncBody.stmts (mF (p5 c (d9 d))) ,scope:=jU (p5 c (d9 d)) ,globals:=3 ,closure:=[] ,defaults:=.none ,kwdefaults:=.none ,pyModule:=.str (Str.ofString e) f ,code:=.ref g}}
def vo (a:String)(b:Nat):Obj:={cls:=.type "tuple" ,data:=.seq #[.str (Str.ofString a) b]}
def s9 (a:String)(b:Nat)(c:Nat)(d:Nat)(e:Nat):Obj:={cls:=.type "type" ,data:=.cls {name:=Str.ofString a ,bases:=[.ref 31] ,mro:=[.ref b ,.ref 31 ,.type "ValueError" ,.type "Exception" ,.type "BaseException" ,.type "object"] ,ns:=c ,qualname:=Str.ofString a} ,slots:=#[some (.ref d) ,none ,some (.str (Str.ofString a) e) ,some (.str (Str.ofString a) (e+8)) ,some (.builtin "ValueError.__new__") ,some (.bool true)]}
def vn (P:QK)(a:Nat)(b:Int)(c:Nat):Obj:={cls:=.type "dict" ,data:=.dict #[{hash:=PyData.keyHash P ("__module__") ,key:=.str ("__module__") a ,val:=.str ("leastdeeds.errors") 194} ,{hash:=PyData.keyHash P ("__firstlineno__") ,key:=.str ("__firstlineno__") (a+4) ,val:=.int b (a+3)} ,{hash:=PyData.keyHash P ("__static_attributes__") ,key:=.str ("__static_attributes__") (a+5) ,val:=.ref c} ,{hash:=PyData.keyHash P ("__doc__") ,key:=.str ("__doc__") (a+6) ,val:=.none}] 2}
def MJ (P:QK)(a:Nat)(b:Nat):Obj:={cls:=.type "dict" ,data:=.dict #[{hash:=PyData.keyHash P ("turn") ,key:=.str ("turn") a ,val:=.ref b} ,{hash:=PyData.keyHash P ("join") ,key:=.str ("join") (a+1) ,val:=.ref (b+7)} ,{hash:=PyData.keyHash P ("move") ,key:=.str ("move") (a+2) ,val:=.ref (b+14)} ,{hash:=PyData.keyHash P ("put") ,key:=.str ("put") (a+3) ,val:=.ref (b+21)}] 4}
def o20:Obj:={cls:=.type "tuple" ,data:=.seq #[.none]}
def o21:Obj:={cls:=.type "function" ,data:=.func {name:="reached" ,qualname:="reached" ,params:=mG (d9 54) ,body:=PySem.FuncBody.stmts (mF (d9 54)) ,scope:=jU (d9 54) ,globals:=3 ,closure:=[] ,defaults:=.ref 329 ,kwdefaults:=.none ,pyModule:=.str ("leastdeeds.least") 626 ,code:=.ref 335}}
def C4 (a:String)(b:Nat)(c:String)(d:String):Obj:={cls:=.type "tuple" ,data:=.seq #[.str (Str.ofString a) b ,.str (Str.ofString c) (b+1) ,.str (Str.ofString d) (b+2)]}
def o23 (P:QK):Obj:={cls:=.type "dict" ,data:=.dict #[{hash:=PyData.keyHash P ("__module__") ,key:=.str ("__module__") 793 ,val:=.str ("leastdeeds.shop") 784} ,{hash:=PyData.keyHash P ("__firstlineno__") ,key:=.str ("__firstlineno__") 797 ,val:=.int 244 796} ,{hash:=PyData.keyHash P ("__init__") ,key:=.str ("__init__") 806 ,val:=.ref 404} ,{hash:=PyData.keyHash P ("row") ,key:=.str ("row") 813 ,val:=.ref 411} ,{hash:=PyData.keyHash P ("cost") ,key:=.str ("cost") 820 ,val:=.ref 418} ,{hash:=PyData.keyHash P ("behaviour") ,key:=.str ("behaviour") 827 ,val:=.ref 425} ,{hash:=PyData.keyHash P ("least") ,key:=.str ("least") 834 ,val:=.ref 432} ,{hash:=PyData.keyHash P ("put") ,key:=.str ("put") 843 ,val:=.ref 439} ,{hash:=PyData.keyHash P ("out") ,key:=.str ("out") 851 ,val:=.ref 446} ,{hash:=PyData.keyHash P ("back") ,key:=.str ("back") 858 ,val:=.ref 453} ,{hash:=PyData.keyHash P ("change") ,key:=.str ("change") 866 ,val:=.ref 460} ,{hash:=PyData.keyHash P ("give") ,key:=.str ("give") 875 ,val:=.ref 467} ,{hash:=PyData.keyHash P ("__static_attributes__") ,key:=.str ("__static_attributes__") 879 ,val:=.ref 468} ,{hash:=PyData.keyHash P ("__dict__") ,key:=.str ("__dict__") 881 ,val:=.ref 471} ,{hash:=PyData.keyHash P ("__weakref__") ,key:=.str ("__weakref__") 883 ,val:=.ref 472} ,{hash:=PyData.keyHash P ("__doc__") ,key:=.str ("__doc__") 884 ,val:=.none}] 4}
def o24:Obj:={cls:=.type "type" ,data:=.cls {name:="Shop" ,bases:=[.type "object"] ,mro:=[.ref 470 ,.type "object"] ,ns:=469 ,qualname:="Shop"} ,slots:=#[none ,none ,some (.str ("Shop") 786) ,some (.str ("Shop") 794) ,some (.builtin "object.__new__") ,some (.bool true)]}
def o25:Obj:={cls:=.type "type" ,data:=.cls {name:="DeedError" ,bases:=[.type "ValueError"] ,mro:=[.ref 31 ,.type "ValueError" ,.type "Exception" ,.type "BaseException" ,.type "object"] ,ns:=30 ,qualname:="DeedError" ,subclasses:=[.ref 51 ,.ref 63 ,.ref 75 ,.ref 87 ,.ref 99 ,.ref 111 ,.ref 123]} ,slots:=#[some (.ref 22) ,none ,some (.str ("DeedError") 196) ,some (.str ("DeedError") 204) ,some (.builtin "ValueError.__new__") ,some (.bool true)]}
def MI (a:String)(b:Nat)(c:Int)(d:Nat)(e:Int):Obj:={cls:=.type "code" ,data:=.fields #[.str (Str.ofString a) b ,.str (Str.ofString a) (b+1) ,.str ("/claim/cut.py") (b+2) ,.int c 0 ,.int 3 0 ,.int 0 0 ,.int 0 0 ,.int 3 0 ,.ref d ,.bool true ,.int 181 0 ,.ref (d+1) ,.none ,.none ,.none ,.ref (d+2) ,.int e 0 ,.int c 0 ,.str ("/claim/cut.py") (b+4)]}
def s8 (a:String)(b:Nat)(c:Nat):Obj:={cls:=.type "function" ,data:=.func {name:=Str.ofString a ,qualname:=Str.ofString a ,params:=mG (d9 b) ,body:=PySem.FuncBody.stmts (mF (d9 b)) ,scope:=jU (d9 b) ,globals:=3 ,closure:=[] ,defaults:=.none ,kwdefaults:=.none ,pyModule:=.str ("law_leastdeeds_k43_whole_mended_rows") 887 ,code:=.ref c}}
def jV (i:Nat):Str×Nat×Nat×List Str×Bool:=match d9 i with
 |.FunctionDef x a _ _ _ _ sc _ _ p=>(x,p.line,a.args.length,sc.names.filterMap (λq=>match q.2 with|.local=>some q.1|_=>none),sc.names.any (λq=>match q.2 with|.cell=>true|_=>false))
 |_=>("",0,0,[],false)
def kN (i:Nat):Nat:=bif (jV i).2.2.2.2 then 0 else(jV i).2.2.2.1.length
def zH (i:Nat):Nat:=bif (jV i).2.2.2.2 then 5 else 7
def lg:Nat->Nat->Nat->Nat->List (Nat×Nat×Nat)
 |0,_,_,_=>[]
 |n+1,i,e,t=>(i,e,t)::lg n (i+1) (e+zH i) (t+kN i+6)
def lP:Nat×Nat×Nat->List OX:=λ(i,e,_)=>[.int (jV i).2.1 0,.int 0 0,.ref (e+zH i-2)]
def lQ (P:QK):Nat×Nat×Nat->QN:=λ(i,e,t)=>{PyData.keyHash P (jV i).1,.str (jV i).1 (t+kN i+5),.ref (e+zH i-1)}
def DF (c:OX)(i g:Nat)(m d:OX):Obj:={cls:=c,data:=.func {name:=(jV i).1,qualname:=(jV i).1,params:=mG (d9 i),body:=.stmts (mF (d9 i)),scope:=jU (d9 i),globals:=g,closure:=[],defaults:=.none,kwdefaults:=.none,pyModule:=m,code:=d}}
def kO (m:Str)(k:Nat):Nat×Nat×Nat->List Obj:=λ(i,e,t)=>
 let x:=(jV i).1
 let l:OX:=.int (jV i).2.1 0
 let q:=t+kN i
 let c:=λ(a:OX) (b:OX) (d:Nat)=>({cls:=.type "code",data:=.fields #[.str x t,.str x (t+1),.str "/claim/cut.py" (t+2),l,.int (jV i).2.2.1 0,.int 0 0,.int 0 0,.int 3 0,.ref e,.bool true,.int 181 0,.ref (e+1),.none,a,b,.ref (e+d),.int (q+3:Nat) 0,l,.str "/claim/cut.py" (q+4)]}:Obj)
 [o1,{cls:=.none,data:=.fields #[]}]++bif (jV i).2.2.2.2 then [DF .none i 0 .none .none,c .none .none 2,DF (.type "function") i 3 (.str m k) (.ref (e+3))] else [{cls:=.type "tuple",data:=.seq (((jV i).2.2.2.1.zipIdx (t+3)).map λp=>.str p.1 p.2).toArray},o1,DF .none i 0 .none .none,c (.ref (e+2)) (.ref (e+3)) 4,DF (.type "function") i 3 (.str m k) (.ref (e+5))]
def lR:Nat×Nat×Nat->List Addr:=λ(i,e,_)=>[e+zH i-2,e+zH i-1]
def Dl:=lg 1 0 15 187
def Dk:=lg 1 11 126 337
def Dj:=lg 10 19 133 360
def Di:=lg 9 30 200 461
def Dh:=lg 3 40 257 533
def Dg:=lg 1 43 278 570
def De:=lg 4 45 286 591
def Dd:=lg 3 51 312 630
def Dc:=lg 7 58 337 677
def C9:=lg 1 66 384 770
def w5:=lg 5 70 475 889
def MR:List OX:=Dl.flatMap lP++[.int 5 0,.int 0 0,.ref 27,.int 7 0,.int 0 0,.ref 40,.int 12 0,.int 0 0,.ref 59,.int 14 0,.int 0 0,.ref 71,.int 16 0,.int 0 0,.ref 83,.int 18 0,.int 0 0,.ref 95,.int 20 0,.int 0 0,.ref 107]
def MQ:List OX:=MR++[.int 22 0,.int 0 0,.ref 119]++Dk.flatMap lP++Dj.flatMap lP++Di.flatMap lP++Dh.flatMap lP
def kt2:List OX:=MQ++Dg.flatMap lP++De.flatMap lP++Dd.flatMap lP++[.int 164 0,.int 0 0,.ref 335]++Dc.flatMap lP++C9.flatMap lP++[.int 244 0,.int 0 0,.ref 396]++w5.flatMap lP
def MU (P:QK):List QN:=[eN P "__doc__" 166 (.none),eN P "__package__" 167 (.none),eN P "__loader__" 168 (.builtin "__main__.__loader__#opaque"),eN P "__spec__" 169 (.none),eN P "__annotations__" 170 (.ref 6),eN P "__builtins__" 171 (.ref 4),eN P "__file__" 173 (.str "/claim/cut.py" 172),eN P "__cached__" 174 (.none)]++Dl.map (lQ P)++[eN P "DeedError" 213 (.ref 31),eN P "NoRow" 238 (.ref 51),eN P "NoMachine" 254 (.ref 63),eN P "TooLong" 270 (.ref 75),eN P "NoBound" 286 (.ref 87),eN P "TooMany" 302 (.ref 99),eN P "NoPlace" 318 (.ref 111)]
def MT (P:QK):List QN:=MU P++[eN P "NoDeed" 334 (.ref 123)]++Dk.map (lQ P)++[eN P "LEAST_WORDS" 349 (.int 2 348),eN P "MOST_WORDS" 351 (.int 4 350),eN P "MOST_PLACES" 353 (.int 2 352),eN P "MOST_DEEDS" 355 (.int 6 354),eN P "MOST_COST" 357 (.int 3 356),eN P "LONGEST_ROW" 359 (.int 40 358)]++Dj.map (lQ P)++[eN P "SORTS" 460 (.ref 199)]++Di.map (lQ P)++Dh.map (lQ P)
def MS (P:QK):List QN:=MT P++Dg.map (lQ P)++[eN P "NEW_WORDS" 590 (.ref 285)]++De.map (lQ P)++[eN P "MOST_BEHAVIOURS" 629 (.int 255 628)]++Dd.map (lQ P)++[eN P "reached" 670 (.ref 336),eN P "LONGEST_MENDED" 674 (.int 12 673),eN P "WIDEST_WINDOW" 676 (.int 6 675)]++Dc.map (lQ P)++C9.map (lQ P)++[eN P "Shop" 886 (.ref 470)]++w5.map (lQ P)
def kg3 (P:QK):List QN:=MS P++[eN P "_law_deed" 940 (.ref 512),eN P "_law_machine" 954 (.ref 519),eN P "_law_row" 960 (.ref 524),eN P "_law_some_machine" 969 (.ref 531),eN P "_law_told" 979 (.ref 538),eN P "_law_spared" 992 (.ref 545),eN P "law" 1008 (.ref 552)]
noncomputable def MY (P:QK):List Obj:=[o1,{cls:=.none,data:=.fields MR.toArray},o2 "<module>" 182 1 11 185,o3 13 3 "__main__" 164]++Dl.flatMap (kO "__main__" 164)++[{cls:=.type "tuple",data:=.seq #[.type "ValueError"]},o4,o5 P 203 "DeedError" 5 29,o1,o6,o2 "DeedError" 198 5 25 201,o3 27 24 "leastdeeds.errors" 194,o1,o7 P 203 5 "__static_attributes__" 208 29 "__weakref__" 32 3,{cls:=.type "type",data:=.cls {name:="DeedError",bases:=[.type "ValueError"],mro:=[.ref 31,.type "ValueError",.type "Exception",.type "BaseException",.type "object"],ns:=30,qualname:="DeedError",subclasses:=[.ref 51,.ref 63,.ref 75,.ref 87,.ref 99,.ref 111]},slots:=#[some (.ref 22),none,some (.str "DeedError" 196),some (.str "DeedError" 204),some (.builtin "ValueError.__new__"),some (.bool true)]},o8 209 31,o9 31,oH 31,td,o4,{cls:=.type "dict",data:=.dict #[eN P "__module__" 221 (.str "leastdeeds.errors" 194),eN P "__qualname__" 223 (.str "NoRow" 222),eN P "__firstlineno__" 225 (.int 7 224),eN P "__init__" 233 (.ref 48),eN P "__static_attributes__" 235 (.ref 49)] 5},o1,{cls:=.none,data:=.fields #[.int 9 0,.int 4 0,.ref 47]},o2 "NoRow" 216 7 38 219,o3 40 37 "leastdeeds.errors" 194,o1,o6,II 229 "place",o1,lH "__init__" "NoRow.__init__" 0 3,gY "__init__" 226 "NoRow.__init__" 9 2 42 231 232,lG "__init__" "NoRow.__init__" 0 3 "leastdeeds.errors" 194 47,vo "place" 234,o7 P 221 7 "__init__" 233 48 "__static_attributes__" 49 2,s9 "NoRow" 51 50 35 214,o9 51,oH 51,td,o4,o5 P 246 "NoMachine" 12 61,o1,o6,o2 "NoMachine" 241 12 57 244,o3 59 56 "leastdeeds.errors" 194,o1,vn P 246 12 61,s9 "NoMachine" 63 62 54 239,o9 63,oH 63,td,o4,o5 P 262 "TooLong" 14 73,o1,o6,o2 "TooLong" 257 14 69 260,o3 71 68 "leastdeeds.errors" 194,o1,vn P 262 14 73,s9 "TooLong" 75 74 66 255,o9 75,oH 75,td,o4,o5 P 278 "NoBound" 16 85,o1,o6,o2 "NoBound" 273 16 81 276,o3 83 80 "leastdeeds.errors" 194,o1,vn P 278 16 85,s9 "NoBound" 87 86 78 271,o9 87,oH 87,td,o4,o5 P 294 "TooMany" 18 97,o1,o6,o2 "TooMany" 289 18 93 292,o3 95 92 "leastdeeds.errors" 194,o1,vn P 294 18 97,s9 "TooMany" 99 98 90 287,o9 99,oH 99,td,o4,o5 P 310 "NoPlace" 20 109,o1,o6,o2 "NoPlace" 305 20 105 308,o3 107 104 "leastdeeds.errors" 194,o1,vn P 310 20 109,s9 "NoPlace" 111 110 102 303,o9 111,oH 111]
def MX (P:QK):List Obj:=(((MY P).set 1 ({cls:=.none,data:=.fields MQ.toArray})).set 20 (o25))++[td,o4,o5 P 326 "NoDeed" 22 121,o1,o6,o2 "NoDeed" 321 22 117 324,o3 119 116 "leastdeeds.errors" 194,o1,vn P 326 22 121,s9 "NoDeed" 123 122 114 319,o9 123,oH 123]++Dk.flatMap (kO "leastdeeds.wholes" 335)++Dj.flatMap (kO "leastdeeds.machines" 346)++[MJ P 452 177]++Di.flatMap (kO "leastdeeds.machines" 346)++Dh.flatMap (kO "leastdeeds.runs" 531)
noncomputable def MW (P:QK):List Obj:=((MX P).set 1 ({cls:=.none,data:=.fields kt2.toArray}))++Dg.flatMap (kO "leastdeeds.runs" 531)++[MJ P 582 263]++De.flatMap (kO "leastdeeds.runs" 531)++Dd.flatMap (kO "leastdeeds.least" 626)++[o20,o1,o6,{cls:=.type "tuple",data:=.seq #[.str "machine" 662,.str "bound" 663,.str "leads" 664,.str "empty_ends" 665,.str "found" 666,.str "levels" 667]},o1,{cls:=.none,data:=.func {name:="reached",qualname:="reached",params:=mG (d9 54),body:=PySem.FuncBody.stmts (mF (d9 54)),scope:=jU (d9 54),globals:=0,closure:=[],defaults:=.none,kwdefaults:=.none,pyModule:=.none,code:=.none}},gY "reached" 659 "reached" 164 2 330 668 669,o21]++Dc.flatMap (kO "leastdeeds.mending" 671)++C9.flatMap (kO "leastdeeds.alike" 768)++[o1,o4,{cls:=.type "dict",data:=.dict #[eN P "__module__" 793 (.str "leastdeeds.shop" 784),eN P "__qualname__" 795 (.str "Shop" 794),eN P "__firstlineno__" 797 (.int 244 796),eN P "__init__" 806 (.ref 404),eN P "row" 813 (.ref 411),eN P "cost" 820 (.ref 418),eN P "behaviour" 827 (.ref 425),eN P "least" 834 (.ref 432),eN P "put" 843 (.ref 439),eN P "out" 851 (.ref 446),eN P "back" 858 (.ref 453),eN P "change" 866 (.ref 460),eN P "give" 875 (.ref 467),eN P "__static_attributes__" 879 (.ref 468)] 14},o1,{cls:=.none,data:=.fields #[.int 246 0,.int 4 0,.ref 403,.int 252 0,.int 4 0,.ref 410,.int 255 0,.int 4 0,.ref 417,.int 258 0,.int 4 0,.ref 424,.int 261 0,.int 4 0,.ref 431,.int 264 0,.int 4 0,.ref 438,.int 273 0,.int 4 0,.ref 445,.int 276 0,.int 4 0,.ref 452,.int 279 0,.int 4 0,.ref 459,.int 283 0,.int 4 0,.ref 466]},o2 "Shop" 788 244 394 791,o3 396 393 "leastdeeds.shop" 784,o1,o6,C4 "self" 801 "machine" "row",o1,lH "__init__" "Shop.__init__" 0 68,gY "__init__" 798 "Shop.__init__" 246 3 398 804 805,lG "__init__" "Shop.__init__" 0 68 "leastdeeds.shop" 784 403,o1,o6,vo "self" 810,o1,lH "row" "Shop.row" 1 68,gY "row" 807 "Shop.row" 252 1 405 811 812,lG "row" "Shop.row" 1 68 "leastdeeds.shop" 784 410,o1,o6,vo "self" 817,o1,lH "cost" "Shop.cost" 2 68,gY "cost" 814 "Shop.cost" 255 1 412 818 819,lG "cost" "Shop.cost" 2 68 "leastdeeds.shop" 784 417,o1,o6,vo "self" 824,o1,lH "behaviour" "Shop.behaviour" 3 68,gY "behaviour" 821 "Shop.behaviour" 258 1 419 825 826,lG "behaviour" "Shop.behaviour" 3 68 "leastdeeds.shop" 784 424,o1,o6,vo "self" 831,o1,lH "least" "Shop.least" 4 68,gY "least" 828 "Shop.least" 261 1 426 832 833,lG "least" "Shop.least" 4 68 "leastdeeds.shop" 784 431,o1,o6,C4 "self" 838 "place" "number",o1,lH "put" "Shop.put" 5 68,gY "put" 835 "Shop.put" 264 3 433 841 842,lG "put" "Shop.put" 5 68 "leastdeeds.shop" 784 438,o1,o6,II 847 "place",o1,lH "out" "Shop.out" 6 68,gY "out" 844 "Shop.out" 273 2 440 849 850,lG "out" "Shop.out" 6 68 "leastdeeds.shop" 784 445,o1,o6,vo "self" 855,o1,lH "back" "Shop.back" 7 68,gY "back" 852 "Shop.back" 276 1 447 856 857,lG "back" "Shop.back" 7 68 "leastdeeds.shop" 784 452,o1,o6,II 862 "row",o1,lH "change" "Shop.change" 8 68,gY "change" 859 "Shop.change" 279 2 454 864 865,lG "change" "Shop.change" 8 68 "leastdeeds.shop" 784 459,o1,o6,C4 "self" 870 "row" "start",o1,lH "give" "Shop.give" 9 68,gY "give" 867 "Shop.give" 283 2 461 873 874,lG "give" "Shop.give" 9 68 "leastdeeds.shop" 784 466,C4 "earlier" 876 "machine" "standing",o23 P,o24,{cls:=.type "getset_descriptor",data:=.fields #[.str "__dict__" 880,.ref 470,.builtin "function.__dict__",.builtin "function.__dict__#set"]},o8 882 470,o9 470,oH 470]++w5.flatMap (kO "law_leastdeeds_k43_whole_mended_rows" 887)
def MV:List Addr:=[30,31,50,51,62,63,74,75,86,87,98,99,110,111,122,123,199,285,329,335,336,403,404,410,411,417,418,424,425,431,432,438,439,445,446,452,453,459,460,466,467,469,470]++Dl.flatMap lR++Dk.flatMap lR++Dj.flatMap lR++Di.flatMap lR++Dh.flatMap lR++Dg.flatMap lR++De.flatMap lR++Dd.flatMap lR++Dc.flatMap lR++C9.flatMap lR++w5.flatMap lR
def kh:QK->OU:=λP=>[(2,{cls:=.none,data:=.dict #[]}),
 (3,{cls:=.type "dict",data:=.dict (eN P "__name__" 165 (.str "law_leastdeeds_k43_whole_mended_rows" 887)::kg3 P).toArray 82}),
 (511,MI "_law_deed" 935 334 508 938),
 (512,s8 "_law_deed" 75 511),
 (518,gY "_law_machine" 941 "_law_machine" 346 4 513 952 953),
 (519,s8 "_law_machine" 76 518),
 (523,MI "_law_row" 955 357 520 958),
 (524,s8 "_law_row" 77 523),
 (530,gY "_law_some_machine" 961 "_law_some_machine" 364 2 525 967 968),
 (531,s8 "_law_some_machine" 78 530),
 (537,gY "_law_told" 970 "_law_told" 367 3 532 977 978),
 (538,s8 "_law_told" 79 537),
 (544,gY "_law_spared" 980 "_law_spared" 374 3 539 990 991),
 (545,s8 "_law_spared" 80 544),
 (551,gY "law" 993 "law" 380 1 546 1006 1007),
 (552,s8 "law" 81 551)]++List.map (λa=>(a,(MW P).getD (a-11) o1)) MV
def Jh:List Addr:=[2,3,511,512,518,519,523,524,530,531,537,538,544,545,551,552]++MV
def NV:∀P,Jh=(kh P).map (·.1):=λ_=>by kernel_rfl
noncomputable def kq:PH:=PySem.W.view PySem.Challenge.pw_leastdeeds_k43_whole_mended_rows [0,2,3,4,5,6,7,8,9,11,13,14,15,16,17,18,19,20,21,22,23,24,25,26,27,28,29,30,31,32,33,34,35,36,37,38,40,41,42,43,44,45,46,47,48,50,51,52,53,56,57,58,59,60,61,62,63,64,66,68,70,71,72,73,74,75,76,77,78,79,80,81]
abbrev kH:PySem.W.Hook:=PySem.W.kHook kh Jh NV
def oI:List Str:=["SORTS","NEW_WORDS","reached"]
abbrev wZ:=PySem.Challenge.rw_leastdeeds_k43_whole_mended_rows.row
abbrev kX:O0->Bool:=λs=>PySem.W.xlAt kq [] s&&PySem.W.recOk (PySem.W.RowW.records wZ.toRowW) s
def Dy (P:QK)(os:Qc):Qe:={HD.treeOf ((((PySem.W.boot_heap P).objs.toList.set 3 ({cls:=.type "dict",data:=.dict (eN P "__name__" 165 (.str "leastdeeds.errors" 194)::MU P).toArray 17})))++MY P) 0 .nil,114,{},#[],{},319,os}
def Dx (P:QK)(os:Qc):Qe:={HD.treeOf ((((PySem.W.boot_heap P).objs.toList.set 3 ({cls:=.type "dict",data:=.dict (eN P "__name__" 165 (.str "leastdeeds.runs" 531)::MT P).toArray 48})))++MX P) 0 .nil,278,{},#[],{},570,os}
def Dw (P:QK)(os:Qc):Qe:={HD.treeOf ((((PySem.W.boot_heap P).objs.toList.set 3 ({cls:=.type "dict",data:=.dict (eN P "__name__" 165 (.str "law_leastdeeds_k43_whole_mended_rows" 887)::MS P).toArray 75})))++MW P) 0 .nil,508,{},#[],{},935,os}
def kE:Env:={scope:=PySem.Challenge.pw_leastdeeds_k43_whole_mended_rows.main.scope,locals:=mainNs,globals:=mainNs,cells:=[],code:=.ref 13,frame:=some 14}
def kP (w:PC)(os:Qc):=HD.vP treeTable PySem.Challenge.pw_leastdeeds_k43_whole_mended_rows w 11 (some (.ref 6)) 12 (HD.xy w.params os) (PySem.W.topStub PySem.Challenge.pw_leastdeeds_k43_whole_mended_rows)
def Ds (w:PC)(os:Qc):=(kP w os).bind λx=>HD.ki treeTable PySem.Challenge.pw_leastdeeds_k43_whole_mended_rows w 11 (some (.ref 6)) 1535 x.1 (PySem.W.piecesOf ((PySem.W.behindTheImports PySem.Challenge.pw_leastdeeds_k43_whole_mended_rows).take 9) kE (.body (PySem.W.behindTheImports PySem.Challenge.pw_leastdeeds_k43_whole_mended_rows) kE) {0,0,0,0} [PySem.W.topFrame {0,0,0,0}])
def Dp (w:PC)(os:Qc):Option (Flow×Qe×Code×Pos):=some (.next,Dy w.params os,(.body (PySem.W.behindTheImports PySem.Challenge.pw_leastdeeds_k43_whole_mended_rows) kE),{20,0,21,8})
def Dr (w:PC)(os:Qc):=HD.ki treeTable PySem.Challenge.pw_leastdeeds_k43_whole_mended_rows w 11 (some (.ref 6)) 1073 (Dy w.params os) (PySem.W.piecesOf (((PySem.W.behindTheImports PySem.Challenge.pw_leastdeeds_k43_whole_mended_rows).drop 9).take 34) kE (.body (PySem.W.behindTheImports PySem.Challenge.pw_leastdeeds_k43_whole_mended_rows) kE) {20,0,21,8} [PySem.W.topFrame {0,0,0,0}])
def Dn (w:PC)(os:Qc):Option (Flow×Qe×Code×Pos):=some (.next,Dx w.params os,(.body (PySem.W.behindTheImports PySem.Challenge.pw_leastdeeds_k43_whole_mended_rows) kE),{123,0,125,26})
def Dq (w:PC)(os:Qc):=HD.ki treeTable PySem.Challenge.pw_leastdeeds_k43_whole_mended_rows w 11 (some (.ref 6)) 1371 (Dx w.params os) (PySem.W.piecesOf ((((PySem.W.behindTheImports PySem.Challenge.pw_leastdeeds_k43_whole_mended_rows).drop 9).drop 34).take 32) kE (.body (PySem.W.behindTheImports PySem.Challenge.pw_leastdeeds_k43_whole_mended_rows) kE) {123,0,125,26} [PySem.W.topFrame {0,0,0,0}])
def Dm (w:PC)(os:Qc):Option (Flow×Qe×Code×Pos):=some (.next,Dw w.params os,(.body (PySem.W.behindTheImports PySem.Challenge.pw_leastdeeds_k43_whole_mended_rows) kE),{318,0,333,23})
def kR (w:PC)(os:Qc):=HD.gr treeTable PySem.Challenge.pw_leastdeeds_k43_whole_mended_rows w 11 (some (.ref 6)) 4534 (Dw w.params os) (PySem.W.restOf ((((PySem.W.behindTheImports PySem.Challenge.pw_leastdeeds_k43_whole_mended_rows).drop 9).drop 34).drop 32) kE (.body (PySem.W.behindTheImports PySem.Challenge.pw_leastdeeds_k43_whole_mended_rows) kE) {318,0,333,23} [PySem.W.topFrame {0,0,0,0}])
abbrev Jc (P:QK)(s:Qe):=HD.ky PySem.Challenge.pw_leastdeeds_k43_whole_mended_rows kq oI kX true (PySem.W.boot_heap P) (λs=>Jh.map s.heap.get?) s.abs
def Dv (w:PC)(os:Qc):=(kR w os).map λs=>(Jc w.params s).1
def Du (w:PC)(os:Qc):=(kR w os).map λs=>(Jc w.params s).2.1
def Dt (w:PC)(os:Qc):=(kR w os).map λs=>(Jc w.params s).2.2
def DD (w:PC):=some true
def DC (w:PC):=some (PySem.W.openGood kq oI)
def Dz (w:PC):=some ((kh w.params).map λp=>some p.2)
def _root_.PySem.W.Fast.tw3773471298684111771:PH:=PySem.Challenge.pw_leastdeeds_k43_whole_mended_rows
def _root_.PySem.W.Fast.te3773471298684111771:PySem.Challenge.pw_leastdeeds_k43_whole_mended_rows=PySem.W.Fast.tw3773471298684111771:=rfl
def _root_.PySem.W.Fast.tw137236712516638361:QK->OU:=K43.kh
def _root_.PySem.W.Fast.te137236712516638361:K43.kh=PySem.W.Fast.tw137236712516638361:=rfl
def _root_.PySem.W.Fast.tw16791819331218902339:QK->Qc->Qe:=K43.Dy
def _root_.PySem.W.Fast.te16791819331218902339:K43.Dy=PySem.W.Fast.tw16791819331218902339:=rfl
def _root_.PySem.W.Fast.tw7484184303075547588:QK->Qc->Qe:=K43.Dx
def _root_.PySem.W.Fast.te7484184303075547588:K43.Dx=PySem.W.Fast.tw7484184303075547588:=rfl
def _root_.PySem.W.Fast.tw13294771028094730956:QK->Qc->Qe:=K43.Dw
def _root_.PySem.W.Fast.te13294771028094730956:K43.Dw=PySem.W.Fast.tw13294771028094730956:=rfl
def N5:Dv=Dv:=rfl
name_quick kq1_43 for Dv by N5
def N4:Du=Du:=rfl
name_quick kq2_43 for Du by N4
def N7:DC=DC:=rfl
name_quick kg2_43 for DC by N7
def N3:Dt=Dt:=rfl
name_quick kq3_43 for Dt by N3
def N6:Dz=Dz:=rfl
name_quick kg3_43 for Dz by N6
def N2:Ds=Ds:=rfl
name_quick kua43 for Ds by N2
def NZ:Dp=Dp:=rfl
name_quick kva43 for Dp by NZ
def N1:Dr=Dr:=rfl
name_quick kub43 for Dr by N1
def NY:Dn=Dn:=rfl
name_quick kvb43 for Dn by NY
def N0:Dq=Dq:=rfl
name_quick kuc43 for Dq by N0
def NX:Dm=Dm:=rfl
name_quick kvc43 for Dm by NX
def zG:∀(w:PC) (os:Qc),PySem.W.Fast.kua43 (w.withFollow "special-get-raises" false) os=PySem.W.Fast.kva43 (w.withFollow "special-get-raises" false) os:=λw os=>by kernel_rfl
def BO:∀(w:PC) (os:Qc),PySem.W.Fast.kua43 (w.withFollow "special-get-raises" true) os=PySem.W.Fast.kva43 (w.withFollow "special-get-raises" true) os:=λw os=>by kernel_rfl
def ka0:∀(w:PC) (os:Qc),Ds w os=Dp w os:=λw os=>by
 rw[PySem.W.Fast.kua43_eq,PySem.W.Fast.kva43_eq];exact PySem.W.byRow2 "special-get-raises" (P:=λw=>PySem.W.Fast.kua43 w os=PySem.W.Fast.kva43 w os) (λw=>zG w os) (λw=>BO w os) w
def zF:∀(w:PC) (os:Qc),PySem.W.Fast.kub43 (w.withFollow "special-get-raises" false) os=PySem.W.Fast.kvb43 (w.withFollow "special-get-raises" false) os:=λw os=>by kernel_rfl
def BN:∀(w:PC) (os:Qc),PySem.W.Fast.kub43 (w.withFollow "special-get-raises" true) os=PySem.W.Fast.kvb43 (w.withFollow "special-get-raises" true) os:=λw os=>by kernel_rfl
def ka1:∀(w:PC) (os:Qc),Dr w os=Dn w os:=λw os=>by
 rw[PySem.W.Fast.kub43_eq,PySem.W.Fast.kvb43_eq];exact PySem.W.byRow2 "special-get-raises" (P:=λw=>PySem.W.Fast.kub43 w os=PySem.W.Fast.kvb43 w os) (λw=>zF w os) (λw=>BN w os) w
def zE:∀(w:PC) (os:Qc),PySem.W.Fast.kuc43 (w.withFollow "special-get-raises" false) os=PySem.W.Fast.kvc43 (w.withFollow "special-get-raises" false) os:=λw os=>by kernel_rfl
def BM:∀(w:PC) (os:Qc),PySem.W.Fast.kuc43 (w.withFollow "special-get-raises" true) os=PySem.W.Fast.kvc43 (w.withFollow "special-get-raises" true) os:=λw os=>by kernel_rfl
def ka2:∀(w:PC) (os:Qc),Dq w os=Dm w os:=λw os=>by
 rw[PySem.W.Fast.kuc43_eq,PySem.W.Fast.kvc43_eq];exact PySem.W.byRow2 "special-get-raises" (P:=λw=>PySem.W.Fast.kuc43 w os=PySem.W.Fast.kvc43 w os) (λw=>zE w os) (λw=>BM w os) w
def zB:∀(w:PC) (os:Qc),PySem.W.Fast.kq1_43 (w.withFollow "special-get-raises" false) os=DD (w.withFollow "special-get-raises" false):=λw os=>by kernel_rfl
def BK:∀(w:PC) (os:Qc),PySem.W.Fast.kq1_43 (w.withFollow "special-get-raises" true) os=DD (w.withFollow "special-get-raises" true):=λw os=>by kernel_rfl
def kl1:∀(w:PC) (os:Qc),Dv w os=DD w:=λw os=>by
 rw[PySem.W.Fast.kq1_43_eq];exact PySem.W.byRow2 "special-get-raises" (P:=λw=>PySem.W.Fast.kq1_43 w os=DD w) (λw=>zB w os) (λw=>BK w os) w
def zA:∀(w:PC) (os:Qc),PySem.W.Fast.kq2_43 (w.withFollow "special-get-raises" false) os=PySem.W.Fast.kg2_43 (w.withFollow "special-get-raises" false):=λw os=>by kernel_rfl
def BJ:∀(w:PC) (os:Qc),PySem.W.Fast.kq2_43 (w.withFollow "special-get-raises" true) os=PySem.W.Fast.kg2_43 (w.withFollow "special-get-raises" true):=λw os=>by kernel_rfl
def kl2:∀(w:PC) (os:Qc),Du w os=DC w:=λw os=>by
 rw[PySem.W.Fast.kq2_43_eq,PySem.W.Fast.kg2_43_eq];exact PySem.W.byRow2 "special-get-raises" (P:=λw=>PySem.W.Fast.kq2_43 w os=PySem.W.Fast.kg2_43 w) (λw=>zA w os) (λw=>BJ w os) w
def zz:∀(w:PC) (os:Qc),PySem.W.Fast.kq3_43 (w.withFollow "special-get-raises" false) os=PySem.W.Fast.kg3_43 (w.withFollow "special-get-raises" false):=λw os=>by kernel_rfl
def BI:∀(w:PC) (os:Qc),PySem.W.Fast.kq3_43 (w.withFollow "special-get-raises" true) os=PySem.W.Fast.kg3_43 (w.withFollow "special-get-raises" true):=λw os=>by kernel_rfl
def kl3:∀(w:PC) (os:Qc),Dt w os=Dz w:=λw os=>by
 rw[PySem.W.Fast.kq3_43_eq,PySem.W.Fast.kg3_43_eq];exact PySem.W.byRow2 "special-get-raises" (P:=λw=>PySem.W.Fast.kq3_43 w os=PySem.W.Fast.kg3_43 w) (λw=>zz w os) (λw=>BI w os) w
def kp:∀(w:PC) (os:Qc),(kP w os).map (·.2)=some {denote treeTable (.body (PySem.W.behindTheImports PySem.Challenge.pw_leastdeeds_k43_whole_mended_rows) kE),(.body (PySem.W.behindTheImports PySem.Challenge.pw_leastdeeds_k43_whole_mended_rows) kE),{0,0,0,0},[PySem.W.topFrame {0,0,0,0}]}:=λw os=>by kernel_rfl
def Ly:PySem.W.LeftO wZ.prog kq oI kX kH.obs kH.val 8526:=HD.uS (m0:=11) (ann:=some (.ref 6)) (PySem.W.boot_open `r `d (λ_=>rfl)) (λw=>by kernel_rfl) λw os=>HD.zW (J:=9) (kp w os) (by kernel_rfl) (ka0 w os) (HD.ug (J:=34) (ka1 w os) (HD.ug (J:=32) (ka2 w os) (HD.zV (kl1 w os) (kl2 w os) (kl3 w os))))
end K43
namespace L2
open PySem PySem.Spec PyProof.Rows
abbrev Key:=Sum Int Str
noncomputable def rV:Key->OX->Bool
 |.inl k,v=>Value.isInt k v
 |.inr x,v=>Value.isStrOf x v
noncomputable def NU (w:PC):Key->Int
 |.inl k=>hashInt k
 |.inr x=>hashStr w x
def cY:∀{k:Key}{v:OX},rV k v=true->(∃i t,k=Sum.inl i/\v=Value.int i t)\/(∃x t,k=Sum.inr x/\v=Value.str x t)
 | .inl i, v, h => by
   obtain⟨t,e⟩:=Value.isInt_shape h;exact .inl ⟨i,t,rfl,e⟩
 | .inr x, v, h => by
   obtain⟨t,e⟩:=Value.isStrOf_shape h;exact .inr ⟨x,t,rfl,e⟩
def jq (x:Str)(t:Tok):rV (.inr x) (.str x t)=true:=by simp[rV,Value.isStrOf]
def Jg (a b:Int):decide ((Sum.inl a:Key)=Sum.inl b)=(a==b):=by
 by_cases e:a=b
 ·subst e;simp
 ·have h:¬ (Sum.inl a:Key)=Sum.inl b:=λq=>e (Sum.inl.inj q);rw[decide_eq_false h];exact(Qf.mpr e).symm
def Jd (a b:Str):decide ((Sum.inr a:Key)=Sum.inr b)=decide (a=b):=by
 by_cases e:a=b
 ·subst e;simp
 ·have h:¬ (Sum.inr a:Key)=Sum.inr b:=λq=>e (Sum.inr.inj q);rw[decide_eq_false h,decide_eq_false e]
def Jf (a:Int)(b:Str):decide ((Sum.inl a:Key)=Sum.inr b)=false:=decide_eq_false (λq=>nomatch q)
def Je (a:Str)(b:Int):decide ((Sum.inr a:Key)=Sum.inl b)=false:=decide_eq_false (λq=>nomatch q)
def jT (prog:PH)(w:PC):PySem.KeyKind prog w Key where
 is:=rV
 hash:=NU w
 inj:=λv a b F B=>by
  rcases cY F with⟨i,t,rfl,rfl⟩|⟨x,t,rfl,rfl⟩
  ·rcases cY B with⟨j,u,rfl,e⟩|⟨y,u,rfl,e⟩
   ·injection e with e1 _;rw[e1]
   ·exact nomatch e
  ·rcases cY B with⟨j,u,rfl,e⟩|⟨y,u,rfl,e⟩
   ·exact nomatch e
   ·injection e with e1 _;rw[e1]
 byValue:=λk v h=>by
  rcases cY h with⟨i,t,rfl,rfl⟩|⟨x,t,rfl,rfl⟩<;>rfl
 pyHash:=λz h=>by
  rcases cY z with⟨i,t,rfl,rfl⟩|⟨x,t,rfl,rfl⟩
  ·exact wpAny_pyHash_int h
  ·exact wpAny_pyHash_str h
 eqBool:=λI z h=>by
  rcases cY I with⟨i,t,rfl,rfl⟩|⟨x,t,rfl,rfl⟩
  ·rcases cY z with⟨j,u,rfl,rfl⟩|⟨y,u,rfl,rfl⟩
   ·rw[Jg] at h;exact wpAny_eqBool_int h
   ·rw[Jf] at h;exact SeqAt.EqAt.int_str i t y u _ _ _ _ h
  ·rcases cY z with⟨j,u,rfl,rfl⟩|⟨y,u,rfl,rfl⟩
   ·rw[Je] at h;exact SeqAt.EqAt.str_int x t j u _ _ _ _ h
   ·rw[Jd] at h;exact wpAny_eqBool_str h
 «strs»:=λk x t v h=>by
  rcases cY h with⟨i,u,rfl,e⟩|⟨y,u,rfl,e⟩
  ·exact nomatch e
  ·injection e with e1 _
   subst e1;cases v<;>rfl
inductive V where
 |non|bl (b:Bool)|int (i:Int)|str (x:Str)|byt (b:Array UInt8)|flt (b:UInt64)|ref (a:Addr)|ty (n:String)
 deriving DecidableEq
def RelV:V->OX->Prop
 |.non,u=>u=Value.none
 |.bl b,u=>u=Value.bool b
 |.int i,u=>∃t,u=Value.int i t
 |.str x,u=>∃t,u=Value.str x t
 |.byt b,u=>∃t,u=Value.bytes b t
 |.flt b,u=>∃t,u=Value.float b t
 |.ref a,u=>u=Value.ref a
 |.ty n,u=>u=Value.type n
abbrev Vals:List V->List OX->Prop:=QT RelV
def Vals.length (r:Vals xs us):xs.length=us.length:=Paired.length r
def Vals.get:∀{xs:List V}{us:List OX}{i:Nat}{x:V},Vals xs us->xs[i]?=some x->∃u,us[i]?=some u/\RelV x u
 |_,_,_,_,.nil,e=>by simp at e
 |_,_,0,_,.cons r _,e=>by simp at e;subst e;exact{_,rfl,r}
 | _, _, i + 1, x, .cons _ t, e => by
   obtain⟨u,h1,h2⟩:=Vals.get t (by simpa using e)
   exact{u,by simpa using h1,h2}
def Vals.set (r:RelV x u):∀{xs:List V}{us:List OX} (i:Nat),Vals xs us->Vals (xs.set i x) (us.set i u)
 |_,_,_,.nil=>.nil
 |_,_,0,.cons _ t=>.cons r t
 |_,_,i+1,.cons q t=>.cons q (Vals.set r i t)
def Vals.append:∀{xs ys:List V}{us ws:List OX},Vals xs us->Vals ys ws->Vals (xs++ys) (us++ws)
 |_,_,_,_,.nil,s=>s
 |_,_,_,_,.cons r t,s=>.cons r (Vals.append t s)
def Vals.take:∀{xs:List V}{us:List OX} (n:Nat),Vals xs us->Vals (xs.take n) (us.take n)
 |_,_,0,_=>.nil
 |_,_,_+1,.nil=>.nil
 |_,_,n+1,.cons r t=>.cons r (Vals.take n t)
def Vals.drop:∀{xs:List V}{us:List OX} (n:Nat),Vals xs us->Vals (xs.drop n) (us.drop n)
 |_,_,0,r=>r
 |_,_,_+1,.nil=>.nil
 |_,_,n+1,.cons _ t=>Vals.drop n t
def jJ:Option V->Option OX->Prop
 |some v,some u=>RelV v u
 |none,none=>True
 |_,_=>False
def KV {j:Type}:List (j×V)->List (j×OX)->Prop:=QT λ(p:j×V) (q:j×OX)=>p.1=q.1/\RelV p.2 q.2
noncomputable def kV:Key->V
 |.inl i=>.int i
 |.inr x=>.str x
inductive HO where
 |lst (xs:List V)
 |tup (xs:List V)
 |dK (kvs:List (Key×V))|dT (kvs:List (List Key×V))
 |set (S:Int->Bool) (n:Nat)
 |ins (C dx:Addr) (fs:List (Str×V))
 |own (x:Addr)
 |xd (fs:List (Str×V))
 |met (f x:Addr)
 |rng (lo hi:Int)
 |frz (o:Obj) (u:HO)
 |tbl (ps:Array OX)
 |ext (φ:Heap->Prop)
 |dn (es:List QN)
abbrev Hp:=Addr->Option HO
noncomputable def upd (H:Hp)(a:Addr)(o:HO):Hp:=λb=>if b=a then some o else H b
def bH:upd H a o a=some o:=by unfold upd;rw[if_pos rfl]
def ao (h:b≠a):upd H a o b=H b:=by unfold upd;rw[if_neg h]
def aO {H:Hp}(h:H a=some o)(h':H b=none):a≠b:=by
 intro e;subst e;rw[h] at h';cases h'
section
variable(P:PH)(w:PC)
def eA (H:Hp)(h:Heap)(a:Addr):HO->Prop
 |.lst xs=>xs.length<=sizeLine/\∃(j:List OX) (n:Nat),Vals xs j/\h.get? a=some {cls:=.type "list",data:=.seq j.toArray n}
 |.tup xs=>xs.length<=sizeLine/\∃j:List OX,Vals xs j/\IsTup h a j.toArray
 |.dK y=>y.length<=sizeLine/\(a==sysModules)=false/\∃B,KV y B/\h.DictOf (jT P w) a B
 |.dT y=>y.length<=sizeLine/\(a==sysModules)=false/\∃xs:List (List Key×Addr×OX),
  QT (λ(p:List Key×V) (q:List Key×Addr×OX)=>p.1=q.1/\H q.2.1=some (.tup (p.1.map kV))/\RelV p.2 q.2.2) y xs/\
  ∃o es F,h.get? a=some o/\o.ExactDict/\o.data=.dict es F/\es.toList=xs.map (entryOfKey (tupleKind (jT P w)))/\(xs.map (·.1)).Nodup
 |.set S n=>h.SetOf (intKind P w) a S n
 |.ins C dx fs=>H dx=some (.own a)/\fs.length<=1000/\dx≠a/\h.get? a=some (PySem.W.instObj C dx)/\
  ∃mA,h.Ns1 dx mA/\(∀f,jJ (fs.lookup f) (mA f))/\PySem.Within mA (fs.map (·.1))
 |.own _=>∃o,h.get? a=some o
 |.xd fs=>∃mA,h.Ns1 a mA/\∀f,jJ (fs.lookup f) (mA f)
 |.rng lo hi=>∃t u v,h.get? a=some {cls:=.type "range",data:=.fields #[.int lo t,.int hi u,.int 1 v]}
 |.frz o u=>h.get? a=some o/\eA H h a u
 |.tbl ps=>h.get? a=some {cls:=.none,data:=.fields ps}
 |.met f x=>h.get? a=some (PySem.W.methodObj (.ref f) (.ref x))
 |.ext z=>z h/\(∃o,h.get? a=some o)/\∀h1 h2:Heap,z h1->(∀o,h1.get? a=some o->h2.get? a=some o)->z h2
 |.dn es=>es.length<=sizeLine/\(a==sysModules)=false/\∃o,h.get? a=some o/\o.ExactDict/\o.data=.dict es.toArray es.length
def dX (H:Hp)(h:Heap):Prop:=∀a o,H a=some o->eA P w H h a o
end
section
variable{P:PH}{w:PC}{H H':Hp}{h h':Heap}{a:Addr}{o:HO}
def eA.lt (x:eA P w H h a o):a<h.objs.size:=by
 cases o with
 |lst xs=>obtain⟨_,_,_,_,e⟩:=x;exact Pe e
 |tup xs=>obtain⟨_,_,_,p⟩:=x;exact p.lt
 |dK j=>obtain⟨_,_,_,_,o,_,_,e,_⟩:=x;exact Pe e
 |dT j=>obtain⟨_,_,_,_,o,_,_,e,_⟩:=x;exact Pe e
 |set S n=>obtain⟨o,_,_,_,e,_⟩:=x;exact Pe e
 |ins C dx fs=>obtain⟨_,_,_,e,_⟩:=x;exact Pe e
 |own y=>obtain⟨_,e⟩:=x;exact Pe e
 |xd fs=>obtain⟨_,⟨_,_,_,e,_⟩,_⟩:=x;exact Pe e
 |rng lo hi=>obtain⟨_,_,_,e⟩:=x;exact Pe e
 |frz ob u=>obtain⟨e,_⟩:=x;exact Pe e
 |tbl ps=>exact Pe (x)
 |met f y=>exact Pe (x)
 |ext z=>obtain⟨_,⟨_,e⟩,_⟩:=x;exact Pe e
 |dn es=>obtain⟨_,_,_,e,_⟩:=x;exact Pe e
def QT.mapP {j y:Type}{F G:j->y->Prop}:∀{l₁:List j}{l₂:List y},QT F l₁ l₂->(∀a b,F a b->G a b)->QT G l₁ l₂
 |_,_,.nil,_=>.nil
 |_,_,.cons r t,f=>.cons (f _ _ r) (QT.mapP t f)
def eA.stay (x:eA P w H h a o)(k:∀b u,(b=a\/H b=some (.own a))->h.get? b=some u->h'.get? b=some u)
 (ho:∀b,H b=some (.own a)->H' b=some (.own a)) (I:∀b xs,H b=some (.tup xs)->H' b=some (.tup xs)):eA P w H' h' a o:=by
 induction o with
 |lst xs=>obtain⟨z,B,n,r,e⟩:=x;exact{z,B,n,r,k _ _ (.inl rfl) e}
 |tup xs=>obtain⟨z,B,r,ob,e,c⟩:=x;exact{z,B,r,ob,k _ _ (.inl rfl) e,c}
 |dK F=>obtain⟨z,y,L,r,ob,es,j,e,c⟩:=x;exact{z,y,L,r,ob,es,j,k _ _ (.inl rfl) e,c}
 | dT F =>
   obtain⟨z,y,xs,r,ob,es,j,e,c⟩:=x;exact{z,y,xs,QT.mapP r λp q z=>{z.1,I _ _ z.2.1,z.2.2},ob,es,j,k _ _ (.inl rfl) e,c}
 |set S n=>obtain⟨ob,es,j,t,e,c⟩:=x;exact{ob,es,j,t,k _ _ (.inl rfl) e,c}
 | ins C dx fs =>
   obtain⟨d,z,ne,e,mA,⟨od,es,j,e2,c⟩,r⟩:=x;exact{ho _ d,z,ne,k _ _ (.inl rfl) e,mA,{od,es,j,k _ _ (.inr d) e2,c},r}
 |own y=>obtain⟨ob,e⟩:=x;exact{ob,k _ _ (.inl rfl) e}
 |xd fs=>obtain⟨mA,⟨od,es,j,e,c⟩,r⟩:=x;exact{mA,{od,es,j,k _ _ (.inl rfl) e,c},r}
 |rng lo hi=>obtain⟨t,u,v,e⟩:=x;exact{t,u,v,k _ _ (.inl rfl) e}
 |frz ob u J=>obtain⟨e,q⟩:=x;exact{k _ _ (.inl rfl) e,J q}
 | tbl ps =>
   have e:=x;exact k a _ (.inl rfl) e
 | met f y =>
   have e:=x;exact k a _ (.inl rfl) e
 |ext M=>obtain⟨p,⟨o,e⟩,st⟩:=x;exact{st _ _ p λo q=>k _ _ (.inl rfl) q,{o,k _ _ (.inl rfl) e},st}
 |dn es=>obtain⟨z,y,o,e,c⟩:=x;exact{z,y,o,k _ _ (.inl rfl) e,c}
def dX.lt (x:dX P w H h)(e:H a=some o):a<h.objs.size:=(x a o e).lt
def dX.fresh (x:dX P w H h)(e:h.objs.size<=a):H a=none:=by
 cases q:H a with
 |none=>rfl
 |some u=>exact absurd (Pj (x.lt q) e) (Qj _)
def dX.kept (x:dX P w H h)(k:∀b u,h.get? b=some u->h'.get? b=some u):dX P w H h':=λa o e=>
 (x a o e).stay (λb u _ q=>k b u q) (λ_ q=>q) λ_ _ q=>q
def dX.laid (x:dX P w H h)(k:∀b u,h.get? b=some u->h'.get? b=some u)(y:h.objs.size<=a)(new:eA P w (upd H a o) h' a o):dX P w (upd H a o) h':=λb u e=>by
 have hn:=x.fresh y;by_cases j:b=a
 ·subst j;rw[bH] at e;cases e;exact new
 ·rw[ao j] at e;exact(x b u e).stay (λc v _ q=>k c v q) (λc q=>by rw[ao (aO q hn)];exact q) λc xs q=>by rw[ao (aO q hn)];exact q
end
def Rd (H:Hp)(a:Addr)(u:HO):Prop:=H a=some u\/∃o,H a=some (.frz o u)
def Rd.ok (r:Rd H a u)(x:dX P w H h):eA P w H h a u:=by
 rcases r with r|⟨o,r⟩
 ·exact x a u r
 ·obtain⟨_,q⟩:=x a _ r;exact q
def D7:Option HO->Prop
 |some (.lst _)=>True
 |some (.dK _)=>True
 |some (.dT _)=>True
 |some (.set _ _)=>True
 |some (.ins _ _ _)=>True
 |some (.ext _)=>True
 |some (.dn _)=>True
 |_=>False
section
variable{P:PH}{w:PC}{H:Hp}{h h':Heap}{x e:Addr}{o':HO}
def dX.write (ok:dX P w H h)(mu:D7 (H x))(he:e=x\/H e=some (.own x))(k:∀b u,b≠e->h.get? b=some u->h'.get? b=some u)(L:∃u,h'.get? e=some u)
 (new:eA P w (upd H x o') h' x o'):dX P w (upd H x o') h':=λb u q=>by
 have B:∀c y,H c=some (.own y)->c≠x:=λc y r z=>by subst z;rw[r] at mu;exact mu
 have F:∀c xs,H c=some (.tup xs)->c≠x:=λc xs r z=>by subst z;rw[r] at mu;exact mu
 by_cases I:b=x
 ·subst I;rw[bH] at q;cases q;exact new
 ·rw[ao I] at q;by_cases j:b=e
  ·have M:H b=some (.own x):=by
    rcases he with z|z
    ·exact absurd (j.trans z) I
    ·rw[j];exact z
   rw[q] at M;cases M;obtain⟨v,O⟩:=L;exact{v,by rw[j];exact O}
  ·refine(ok b u q).stay (λc v J r=>k c v ?_ r) (λc r=>by rw[ao (B c b r)];exact r) λc xs r=>by rw[ao (F c xs r)];exact r
   rcases J with rfl|J
   ·exact j
   ·rintro rfl;rcases he with z|z
    ·exact B c b J z
    ·rw[J] at z;cases z;exact I rfl
end
structure Un (fs ex:List Addr) (H H':Hp) (h h':Heap):Prop where
 keep:∀b o,h.get? b=some o->H b=none->b∉fs->b∉ex->h'.get? b=some o
 slot:∀b o,h.get? b=some o->H b=none->b∈fs->b∉ex->∃sl,h'.get? b=some {o with slots:=sl}
 free:∀b o,h.get? b=some o->H b=none->b∉ex->H' b=none
 there:∀b o,h.get? b=some o->b∉ex->∃o',h'.get? b=some o'
 tups:∀b xs,H b=some (.tup xs)->H' b=some (.tup xs)
 frzs:∀b o u,H b=some (.frz o u)->H' b=some (.frz o u)
 tbls:∀b ps,H b=some (.tbl ps)->∃more,H' b=some (.tbl (ps++more))
section
variable{fs fs' ex ex':List Addr}{H H1 H2:Hp}{h h1 h2 h':Heap}{a x e:Addr}{o:HO}
def Un.any (u:Un fs ex H H1 h h1)(q:h.get? b=some ob)(n:H b=none)(y:b∉ex):∃sl,h1.get? b=some {ob with slots:=sl}:=by
 by_cases j:b∈fs
 ·exact u.slot b ob q n j y
 ·exact{ob.slots,u.keep b ob q n j y}
def Un.kept (k:∀b u,h.get? b=some u->h'.get? b=some u):Un fs ex H H h h':=
 {λb ob q _ _ _=>k b ob q,λb ob q _ _ _=>{ob.slots,k b ob q},λ_ _ _ n _=>n,λb ob q _=>{ob,k b ob q},λ_ _ q=>q,λ_ _ _ q=>q,λ_ ps q=>{#[],by rw[q];simp}}
def Un.refl:Un fs ex H H h h:=Un.kept λ_ _ q=>q
def Un.laid (k:∀b u,h.get? b=some u->h'.get? b=some u)(j:h.objs.size<=a)(hn:H a=none):Un fs ex H (upd H a o) h h' where
 keep:=λb u q _ _ _=>k b u q
 slot:=λb u q _ _ _=>{u.slots,k b u q}
 free:=λb u q n _=>by rw[ao (Pu (Pj (Pe q) j))];exact n
 there:=λb u q _=>{u,k b u q}
 tups:=λb xs q=>by rw[ao (aO q hn)];exact q
 frzs:=λb u xs q=>by rw[ao (aO q hn)];exact q
 tbls:=λb ps q=>{#[],by rw[ao (aO q hn),q];simp}
def Un.write (mu:D7 (H x))(he:e=x\/H e=some (.own x))(k:∀b u,b≠e->h.get? b=some u->h'.get? b=some u)(y:∃u,h'.get? e=some u):Un fs ex H (upd H x o) h h':=by
 have F:∀b,H b=none->b≠x:=λb n z=>by subst z;rw[n] at mu;exact mu
 have B:∀b,H b=none->b≠e:=λb n z=>by
  subst z;rcases he with r|r
  ·exact F b n r
  ·rw[n] at r;cases r
 have hm:∀b u,H b=some u->¬ D7 (some u)->b≠x:=λb u q nm z=>by subst z;rw[q] at mu;exact nm mu
 refine{λb u q n _ _=>k b u (B b n) q,λb u q n _ _=>{u.slots,k b u (B b n) q},λb u q n _=>by rw[ao (F b n)];exact n,λb u q _=>?_,
  λb xs q=>by rw[ao (hm b _ q λz=>z)];exact q,λb u xs q=>by rw[ao (hm b _ q λz=>z)];exact q,λb ps q=>{#[],by rw[ao (hm b _ q λz=>z),q];simp}}
 by_cases j:b=e
 ·subst j;exact y
 ·exact{u,k b u j q}
end
noncomputable def CP (h:Heap)(H:Hp):List Addr:=(List.range h.objs.size).filter λa=>(H a).isSome
def lT (h:Heap)(H:Hp):Heap:=PySem.W.hideAll h (CP h H)
def zN (h:Heap)(H:Hp):(lT h H).objs.size=h.objs.size:=PySem.W.hideAll_size _ _
def BW (e:h.get? b=some o)(n:H b=none):(lT h H).get? b=some o:=
 PySem.W.hideAll_get _ e λhm=>by
  have q:(H b).isSome=true:=(Q6.mp hm).2;rw[n] at q;simp at q
def FC (e:(lT h H).get? b=some o):h.get? b=some o/\H b=none:=by
 have j:=PySem.W.of_hideAll (CP h H) e;refine{j,?_};cases q:H b with
 |none=>rfl
 | some x =>
   have hm:b∈CP h H:=Q6.mpr {QP.mpr (Pe j),by simp[q]}
   have z:(lT h H).get? b=none:=PySem.W.hideAll_none (CP h H) hm;rw[z] at e;cases e
structure Mod (K:OU) (mg:Str->Option OX) (base:Heap):Prop where
 kin:K.In base
 glob:base.Ns mainGlobals mg
 blt:∃mb,base.Ns builtinsNs mb/\∀x:Str,x≠"__name__"->mb x=bootBuiltins x
 nolimit:base.NoLimit
structure Cx where
 prog:PH
 w:PC
 K:OU
 mg:Str->Option OX
 base:Heap
 A:Qx
 N:List Str
 s₀:O0
 H₀:Hp
 env:Env
 outer:List Env
 stack:List Env
 ex:List Addr
 fn:Str->Bool
 calm:Bool
 pn:List (Addr×Obj)
 xe:OX->O0->Prop
noncomputable def fo (l:List Env):List Addr:=l.filterMap (·.frame)
abbrev Cx.fs (X:Cx):List Addr:=fo X.outer
def wb (sc:Scope)(x:Str):Prop:=sc.names.lookup x=some .local\/sc.names.lookup x=some .cell\/sc.names.lookup x=some .free
def Loc (sc:Scope)(x:Str):Prop:=sc.names.lookup x=some .local\/sc.names.lookup x=some .cell
def Look (env:Env)(h:Heap)(m:Str->Option OX)(x:Str)(u:OX):Prop:=
 (env.kindOf x=some .local/\m x=some u)\/((env.kindOf x=some .cell\/env.kindOf x=some .free)/\∃c,env.cells.lookup x=some c/\h.IsCell c (some u))
structure Cx.Ok (X:Cx):Prop where
 mod:Mod X.K X.mg X.base
 kind:X.env.scope.kind=.function
 glob:X.env.globals=mainGlobals
 blt:X.env.builtins=builtinsNs
 above:X.s₀.heap.objs.size<=X.env.locals
 inj:∀x y c,X.env.cells.lookup x=some c->X.env.cells.lookup y=some c->x=y
 has:∀x,(X.env.kindOf x=some .cell\/X.env.kindOf x=some .free)->∃c,X.env.cells.lookup x=some c
 cab:∀x c,X.fn x=true->X.env.cells.lookup x=some c->X.s₀.heap.objs.size<=c
 hd:X.calm=true->X.A.handled=none
 frames:X.A.frames=some X.stack
 stk:X.stack=X.outer\/(X.stack=X.env::X.outer/\X.env.frame=some X.env.locals)
 exf:∀b∈X.ex,b≠X.env.locals/\∀x c,X.env.cells.lookup x=some c->c≠b
 bs:∀b o,X.base.get? b=some o->X.s₀.heap.get? b=some o/\X.H₀ b=none
 bsz:X.base.objs.size<=X.s₀.heap.objs.size
 noex:∀b o,X.base.get? b=some o->b∉X.ex
 exfs:∀b∈X.ex,b∉X.fs
 funs:X.s₀.heap.FunFrames X.base X.outer
 frf:∀b∈X.fs,X.H₀ b=none
structure Inv (X:Cx) (pins:List (Addr×Obj)) (σ:List (Option V)) (H:Hp) (s:O0):Prop where
 ok:X.Ok
 os:s.os=X.s₀.os
 bare:AllBare s.gens
 base:Un X.fs X.ex X.H₀ H X.s₀.heap s.heap
 loc:∃m,s.heap.Ns X.env.locals m/\∀(i:Nat) (x:Str) (v:V),X.N[i]?=some x->σ[i]?=some (some v)->wb X.env.scope x->∃u,RelV v u/\Look X.env s.heap m x u
 cell:∀x c,X.env.cells.lookup x=some c->∃v,s.heap.IsCell c v
 free:H X.env.locals=none
 freeC:∀x c,X.env.cells.lookup x=some c->H c=none
 pin:∀p∈X.pn++pins,s.heap.get? p.1=some p.2/\H p.1=none/\p.1≠X.env.locals/\p.1∉X.fs/\∀v,p.2.data≠.cell v
 hok:dX X.prog X.w H s.heap
 len:σ.length=X.N.length
section
variable{X:Cx}{pins:List (Addr×Obj)}{σ:List (Option V)}{H H':Hp}{s:O0}{h':Heap}
def Cx.Ok.nofr (ok:X.Ok)(e:X.base.get? b=some o):b∉X.fs:=λj=>by
 have:=(ok.funs.mem j).1;rw[e] at this;cases this
def Inv.bs (I:Inv X pins σ H s):∀b o,X.base.get? b=some o->s.heap.get? b=some o/\H b=none:=λb o e=>
 {I.base.keep b o (I.ok.bs b o e).1 (I.ok.bs b o e).2 (I.ok.nofr e) (I.ok.noex b o e),I.base.free b o (I.ok.bs b o e).1 (I.ok.bs b o e).2 (I.ok.noex b o e)}
def Inv.bk (I:Inv X pins σ H s):∀b o,X.base.get? b=some o->s.heap.get? b=some o:=λb o e=>(I.bs b o e).1
def Inv.mod (I:Inv X pins σ H s):Mod X.K X.mg X.base:=I.ok.mod
def Inv.kIn (I:Inv X pins σ H s):X.K.In s.heap:=I.ok.mod.kin.keeps I.bk
def Inv.lt (I:Inv X pins σ H s):X.env.locals<s.heap.objs.size:=let{_,hn,_}:=I.loc;hn.lt
def Inv.sz (I:Inv X pins σ H s):X.s₀.heap.objs.size<=s.heap.objs.size:=Pa I.ok.above (Q4 I.lt)
def Inv.nofs (I:Inv X pins σ H s)(h:s.heap.objs.size<=a):a∉X.fs:=λj=>by
 obtain⟨_,o,ho,_⟩:=I.ok.funs.mem j;exact absurd (Pj (Pe ho) (Pa I.sz h)) (Qj _)
def Inv.cne (I:Inv X pins σ H s):∀x c,X.env.cells.lookup x=some c->c≠X.env.locals:=λx c e z=>by
 obtain⟨v,o,ho,hd⟩:=I.cell x c e;obtain⟨m,⟨o',es,B,y,j,_⟩,_⟩:=I.loc;rw[z,y] at ho;cases ho;rw[j] at hd;cases hd
def Inv.funs (I:Inv X pins σ H s):s.heap.FunFrames X.base X.outer:=by
 have all:∀(l:List Env),(∀b∈fo l,b∈X.fs)->X.s₀.heap.FunFrames X.base l->s.heap.FunFrames X.base l:=by
  intro l;induction l with
  |nil=>intro _ _;trivial
  | cons env r B =>
    intro hs hl;obtain⟨hk,⟨L,o,hf,hn,ho,hd⟩,hr⟩:=hl;have j:=hs L (by unfold fo;rw[List.filterMap_cons,hf];exact Pm)
    obtain⟨sl,e⟩:=I.base.slot L o ho (I.ok.frf L j) j λz=>I.ok.exfs L z j;exact{hk,{L,_,hf,hn,e,hd},B (λb y=>hs b (by unfold fo;rw[List.filterMap_cons,hf];exact O6 _ y)) hr}
 exact all X.outer (λ_ y=>y) I.ok.funs
def Inv.stack (I:Inv X pins σ H s):s.heap.FunFrames X.base X.stack:=by
 rcases I.ok.stk with e|⟨e,hf⟩
 ·rw[e];exact I.funs
 ·rw[e];obtain⟨m,hn,_⟩:=I.loc;refine .cons (by rw[I.ok.kind];decide) hf hn ?_ I.funs
  exact Heap.get?_none_of_le (Pa I.ok.bsz I.ok.above)
def Inv.stkSub (I:Inv X pins σ H s):∀b∈fo X.stack,b∈X.env.locals::X.fs:=λb j=>by
 rcases I.ok.stk with e|⟨e,hf⟩
 ·rw[e] at j;exact O6 _ j
 ·rw[e] at j;unfold fo at j;rw[List.filterMap_cons,hf] at j;exact j
def Inv.stkFree (I:Inv X pins σ H s):∀b∈fo X.stack,H b=none:=λb j=>by
 rcases PJ.mp (I.stkSub b j) with e|j
 ·rw[e];exact I.free
 ·obtain⟨_,o,ho,_⟩:=I.ok.funs.mem j;exact I.base.free b o ho (I.ok.frf b j) λz=>I.ok.exfs b z j
def Inv.step {ch:List Addr}(I:Inv X pins σ H s)
 (B:∀b∈ch,(b∈X.ex\/X.s₀.heap.objs.size<=b)/\b≠X.env.locals/\(∀x c,X.env.cells.lookup x=some c->c≠b)/\∀p∈X.pn++pins,p.1≠b)
 (keep:∀b o,b≠X.env.locals->b∉X.fs->b∉ch->s.heap.get? b=some o->H b=none->h'.get? b=some o)
 (slot:∀b o,b≠X.env.locals->b∈X.fs->b∉ch->s.heap.get? b=some o->H b=none->∃sl,h'.get? b=some {o with slots:=sl}) (free:∀b o,b∉ch->s.heap.get? b=some o->H b=none->H' b=none)
 (there:∀b o,b∉ch->s.heap.get? b=some o->∃o',h'.get? b=some o')
 (tups:∀b xs,H b=some (.tup xs)->H' b=some (.tup xs)) (frzs:∀b o u,H b=some (.frz o u)->H' b=some (.frz o u)) (tbls:∀b ps,H b=some (.tbl ps)->∃more,H' b=some (.tbl (ps++more)))
 (ns:∀m,s.heap.Ns X.env.locals m->h'.Ns X.env.locals m) (hok:dX X.prog X.w H' h') (Y:AllBare g') :
 Inv X pins σ H' {s with heap:=h',gens:=g',drawn:=d',toks:=t'}:=by
 have M:∀b o,X.s₀.heap.get? b=some o->b≠X.env.locals:=λb o e=>Pu (Pj (Pe e) I.ok.above);have J:∀b o,X.s₀.heap.get? b=some o->b∉X.ex->b∉ch:=λb o e j L=>by
  rcases(B b L).1 with z|z
  ·exact j z
  ·exact absurd (Pj (Pe e) z) (Qj _)
 have y:∀x c,X.env.cells.lookup x=some c->∀v,s.heap.IsCell c v->h'.IsCell c v:=λx c e v ⟨o,ho,hd⟩=>by
  have F:=λz=>(B c z).2.2.1 x c e rfl;by_cases R:c∈X.fs
  ·obtain⟨sl,q⟩:=slot c o (I.cne x c e) R F ho (I.freeC x c e);exact{_,q,hd}
  ·exact{o,keep c o (I.cne x c e) R F ho (I.freeC x c e),hd}
 refine{I.ok,I.os,Y,{λb o e n L j=>?_,λb o e n L j=>?_,λb o e n j=>?_,λb o e j=>?_,λb xs e=>tups b xs (I.base.tups b xs e),λb o xs e=>frzs b o xs (I.base.frzs b o xs e),λb ps e=>?_},?_,λx c e=>?_,?_,λx c e=>?_,λp S=>?_,hok,I.len}
 ·exact keep b o (M b o e) L (J b o e j) (I.base.keep b o e n L j) (I.base.free b o e n j)
 ·obtain⟨sl,e1⟩:=I.base.slot b o e n L j;obtain⟨O,e2⟩:=slot b _ (M b o e) L (J b o e j) e1 (I.base.free b o e n j);exact⟨O,e2⟩
 ·obtain⟨o',e1⟩:=I.base.there b o e j;exact free b o' (J b o e j) e1 (I.base.free b o e n j)
 ·obtain⟨o',e1⟩:=I.base.there b o e j;exact there b o' (J b o e j) e1
 ·obtain⟨m1,e1⟩:=I.base.tbls b ps e;obtain⟨m2,e2⟩:=tbls b _ e1;exact{m1++m2,by rw[e2,Array.append_assoc]}
 ·obtain⟨m,hn,hl⟩:=I.loc;refine{m,ns m hn,λi x v e1 e2 W=>?_};obtain⟨u,r,l⟩:=hl i x v e1 e2 W;refine{u,r,?_};rcases l with l|⟨k,c,e,z⟩
  ·exact .inl l
  ·exact .inr {k,c,e,y x c e _ z}
 ·obtain⟨v,z⟩:=I.cell x c e;exact{v,y x c e v z}
 ·obtain⟨m,⟨o,_,_,ho,_⟩,_⟩:=I.loc;exact free _ o (λz=>(B _ z).2.1 rfl) ho I.free
 ·obtain⟨v,o,ho,hd⟩:=I.cell x c e;exact free c o (λz=>(B c z).2.2.1 x c e rfl) ho (I.freeC x c e)
 ·obtain⟨e,n,ne,U,d⟩:=I.pin p S;have F:=λz=>(B p.1 z).2.2.2 p S rfl;exact{keep p.1 p.2 ne U F e n,free p.1 p.2 F e n,ne,U,d}
def Inv.un {t':Nat}(I:Inv X pins σ H s)(u:Un X.fs [] H H' s.heap h')(hok:dX X.prog X.w H' h'):Inv X pins σ H' {s with heap:=h',toks:=t'}:=by
 obtain⟨m,⟨o,es,M,ho,r⟩,_⟩:=id I.loc;obtain⟨sl,J⟩:=u.any ho I.free `s
 exact I.step (ch:=[]) (λ_ z=>nomatch z) (λb o _ F _ e n=>u.keep b o e n F `s) (λb o _ F _ e n=>u.slot b o e n F `s) (λb o _ e n=>u.free b o e n `s) (λb o _ e=>u.there b o e `s) u.tups u.frzs u.tbls (λO hm=>by
  obtain⟨o',B,y,j,L⟩:=hm;rw[ho] at j;cases j;exact{_,B,y,J,L}) hok I.bare
def Inv.call {M:Drawn}{ch:List Addr}(I:Inv X pins σ H s)(u:Un (fo X.stack) ch H H' s.heap h')(hok:dX X.prog X.w H' h')(R:AllBare g')
 (y:∀b∈ch,(b∈X.ex\/X.s₀.heap.objs.size<=b)/\b≠X.env.locals/\(∀x c,X.env.cells.lookup x=some c->c≠b)/\∀p∈X.pn++pins,p.1≠b) :
 Inv X pins σ H' {s with heap:=h',gens:=g',drawn:=M,toks:=t'}:=by
 obtain⟨m,⟨o,es,U,ho,r⟩,_⟩:=id I.loc;obtain⟨sl,L⟩:=u.any ho I.free λz=>(y _ z).2.1 rfl;exact I.step y (λb o L O j e n=>u.keep b o e n (λz=>(PJ.mp (I.stkSub b z)).elim L O) j) (λb o _ _ j e n=>u.any e n j) (λb o j e n=>u.free b o e n j) (λb o j e=>u.there b o e j) u.tups u.frzs u.tbls (λW hm=>by
  obtain⟨o',J,F,B,S⟩:=hm;rw[ho] at B;cases B;exact{_,J,F,L,S}) hok R
def Inv.turned {j:Addr}(I:Inv X pins σ H s)(k:∀b o,b≠j->s.heap.get? b=some o->h'.get? b=some o)(hn:H j=none)(F:j≠X.env.locals)
 (h1:j∈X.ex\/X.s₀.heap.objs.size<=j) (h2:∀x c,X.env.cells.lookup x=some c->c≠j) (h3:∀p∈X.pn++pins,p.1≠j):Inv X pins σ H {s with heap:=h',toks:=t'}:=by
 have B:∀b u,H b=some u->b≠j:=λb u e z=>by rw[z,hn] at e;cases e
 refine I.step (ch:=[j]) (λb L=>?_) (λb o _ _ y e _=>k b o (λz=>y (by simp[z])) e) (λb o _ _ y e _=>{o.slots,k b o (λz=>y (by simp[z])) e}) (λ_ _ _ _ n=>n)
  (λb o y e=>{o,k b o (λz=>y (by simp[z])) e}) (λ_ _ e=>e) (λ_ _ _ e=>e) (λb ps e=>{#[],by rw[e];simp}) (λm hm=>?_) (λb u e=>?_) I.bare
 ·have e:b=j:=by simpa using L
  subst e;exact⟨h1,F,h2,h3⟩
 ·obtain⟨o,es,J,ho,r⟩:=hm;exact{o,es,J,k _ o (Qk F) ho,r}
 ·refine(I.hok b u e).stay (λc v y q=>k c v ?_ q) (λ_ q=>q) λ_ _ q=>q;rcases y with z|z
  ·rw[z];exact B b u e
  ·exact B c _ z
def Inv.tok (I:Inv X pins σ H s)(t:Nat):Inv X pins σ H {s with toks:=t}:=I.un Un.refl I.hok
def Inv.kept (I:Inv X pins σ H s)(k:∀b u,s.heap.get? b=some u->h'.get? b=some u):Inv X pins σ H {s with heap:=h',toks:=t'}:=I.un (Un.kept k) (I.hok.kept k)
def Inv.laid (I:Inv X pins σ H s)(k:∀b u,s.heap.get? b=some u->h'.get? b=some u)(j:s.heap.objs.size<=a)(new:eA X.prog X.w (upd H a o) h' a o) :
 Inv X pins σ (upd H a o) {s with heap:=h',toks:=t'}:=I.un (Un.laid k j (I.hok.fresh j)) (I.hok.laid k j new)
def Inv.write (I:Inv X pins σ H s)(mu:D7 (H x))(he:e=x\/H e=some (.own x))(k:∀b u,b≠e->s.heap.get? b=some u->h'.get? b=some u)(j:∃u,h'.get? e=some u)
 (new:eA X.prog X.w (upd H x o) h' x o):Inv X pins σ (upd H x o) {s with heap:=h',toks:=t'}:=I.un (Un.write mu he k j) (I.hok.write mu he k j new)
def Inv.pins_of (I:Inv X pins σ H s)(h:∀p∈j,s.heap.get? p.1=some p.2/\H p.1=none/\p.1≠X.env.locals/\p.1∉X.fs/\∀v,p.2.data≠.cell v):Inv X j σ H s:=
 {I.ok,I.os,I.bare,I.base,I.loc,I.cell,I.free,I.freeC,λp y=>(PL.mp y).elim (λz=>I.pin p (Qh _ z)) (h p),I.hok,I.len}
def tj {N:List Str}(y:N.Nodup){i j:Nat}(a:N[i]?=some x)(b:N[j]?=some x):i=j:=by
 obtain⟨h1,e1⟩:=OV.mp a;obtain⟨h2,e2⟩:=OV.mp b;exact(List.getElem_inj y).mp (e1.trans e2.symm)
def qC {M:Model}(I:Inv X pins σ H s)(hN:X.N.Nodup)(hi:X.N[i]?=some x)(J:Loc X.env.scope x)(r:RelV v u)
 (h:∀s',Inv X pins (σ.set i (some v)) H s'->(∃a,QE a s.heap s'.heap/\(a=X.env.locals\/X.env.cells.lookup x=some a))->Q () s') (hf:X.fn x=true\/X.env.scope.names.lookup x=some .local:=by first|exact .inl rfl|exact .inr rfl|assumption):wpAny M A (storeName X.env x u) Q E s:=by
 obtain⟨m,hn,hl⟩:=id I.loc;have hcls:(X.env.scope.kind==.class||(X.env.scope.kind==.module&&X.env.locals != X.env.globals))=false:=by rw[I.ok.kind];rfl
 have O:i<σ.length:=by rw[I.len];exact(OV.mp hi).1
 have cne:=I.cne;have B:∀{a:Addr}{h':Heap},(∃o,s.heap.get? a=some o/\H a=none)->QE a s.heap h'->dX X.prog X.w H h':=λ{a h'} ha hs b ob e=>by
  obtain⟨_,_,L⟩:=ha;refine(I.hok b ob e).stay (λc w' F q=>(hs.2 c ?_).trans q) (λ_ q=>q) λ_ _ q=>q;rintro rfl;rcases F with rfl|F
  ·rw[L] at e;cases e
  ·rw[L] at F;cases F
 rcases J with hk|hk
 ·refine wpAny_storeName_local hk hn (λh' hn' hs=>?_) hcls;obtain⟨oL,_,_,hoL,_⟩:=id hn;refine h _ {I.ok,I.os,I.bare,{λb o e n R J=>?_,λb o e n R J=>?_,I.base.free,λb o e J=>?_,I.base.tups,I.base.frzs,I.base.tbls},{_,hn',λj y v' e1 e2 e3=>?_},λy c e=>?_,I.free,I.freeC,λp hp=>?_,B ⟨oL,hoL,I.free⟩ hs,by simpa using I.len} {_,hs,.inl rfl}
  ·exact(hs.2 b (Pu (Pj (Pe e) I.ok.above))).trans (I.base.keep b o e n R J)
  ·obtain⟨sl,e1⟩:=I.base.slot b o e n R J;exact{sl,(hs.2 b (Pu (Pj (Pe e) I.ok.above))).trans e1}
  ·obtain⟨o',e1⟩:=I.base.there b o e J;exact{o',(hs.2 b (Pu (Pj (Pe e) I.ok.above))).trans e1}
  ·by_cases U:j=i
   ·subst U;rw[hi] at e1;cases e1;rw[Py O] at e2;cases e2;exact{u,r,.inl {hk,`s}}
   ·rw[O5 (Qk U)] at e2;obtain⟨u',r',q⟩:=hl j y v' e1 e2 e3;refine{u',r',?_};rcases q with⟨k,e⟩|⟨k,c,e,z⟩
    ·refine .inl {k,?_};have:y≠x:=λe=>U (tj hN e1 (e ▸ hi));simp[this,e]
    ·exact .inr {k,c,e,z.sameBut hs (cne y c e)}
  ·obtain⟨w',z⟩:=I.cell y c e;exact{w',z.sameBut hs (cne y c e)}
  ·obtain⟨e,n,ne,nf,d⟩:=I.pin p hp;exact{(hs.2 p.1 ne).trans e,n,ne,nf,d}
 ·have S:X.fn x=true:=by
   rcases hf with z|z
   ·exact z
   ·rw[z] at hk;cases hk
  obtain⟨c,F⟩:=I.ok.has x (.inl hk);obtain⟨w',z⟩:=I.cell x c F;refine wpAny_storeName_cell I.ok.kind hk F z (λh' W hs=>?_);obtain⟨oc,hoc,hocd⟩:=id z;refine h {s with heap:=h'} {I.ok,I.os,I.bare,{λb o e n R J=>?_,λb o e n R J=>?_,I.base.free,λb o e J=>?_,I.base.tups,I.base.frzs,I.base.tbls},{m,hn.sameBut hs (Qk (cne x c F)),λj y v' e1 e2 e3=>?_},λy c' e=>?_,I.free,I.freeC,λp hp=>?_,B {oc,hoc,I.freeC x c F} hs,by simpa using I.len} {c,hs,.inr F}
  ·exact(hs.2 b (Pu (Pj (Pe e) (I.ok.cab x c S F)))).trans (I.base.keep b o e n R J)
  ·obtain⟨sl,e1⟩:=I.base.slot b o e n R J;exact{sl,(hs.2 b (Pu (Pj (Pe e) (I.ok.cab x c S F)))).trans e1}
  ·obtain⟨o',e1⟩:=I.base.there b o e J;exact{o',(hs.2 b (Pu (Pj (Pe e) (I.ok.cab x c S F)))).trans e1}
  ·by_cases U:j=i
   ·subst U;rw[hi] at e1;cases e1;rw[Py O] at e2;cases e2;exact{u,r,.inr {.inl hk,c,F,W}}
   ·rw[O5 (Qk U)] at e2;obtain⟨u',r',q⟩:=hl j y v' e1 e2 e3;refine{u',r',?_};rcases q with q|⟨k,c',e,z'⟩
    ·exact .inl q
    ·refine .inr {k,c',e,z'.sameBut hs ?_};rintro rfl;exact U (tj hN e1 (I.ok.inj _ _ _ e F ▸ hi))
  ·by_cases Y:c'=c
   ·subst Y;exact{_,W}
   ·obtain⟨w2,z2⟩:=I.cell y c' e;exact{w2,z2.sameBut hs Y}
  ·obtain⟨e,n,ne,nf,d⟩:=I.pin p hp;refine{(hs.2 p.1 ?_).trans e,n,ne,nf,d};intro q;rw[q,hoc] at e;have q':=O2 e;exact d w' (by rw[<- q'];exact hocd)
def su (I:Inv X pins σ H s)(y:X.N.Nodup)(hi:X.N[i]?=some x)(z:Loc X.env.scope x)(r:RelV v u)
 (h:∀s',Inv X pins (σ.set i (some v)) H s'->Q () s') (hf:X.fn x=true\/X.env.scope.names.lookup x=some .local:=by first|exact .inl rfl|exact .inr rfl|assumption):wpAny M A (storeName X.env x u) Q E s:=
 qC I y hi z r (λs' j _=>h s' j) hf
def Inv.call' (I:Inv X pins σ H s)(ho:s'.os=s.os)(u:Un (fo X.stack) ch H H' s.heap s'.heap)(hok:dX X.prog X.w H' s'.heap)(y:AllBare s'.gens)
 (j:∀b∈ch,(b∈X.ex\/X.s₀.heap.objs.size<=b)/\b≠X.env.locals/\(∀x c,X.env.cells.lookup x=some c->c≠b)/\∀p∈X.pn++pins,p.1≠b):Inv X pins σ H' s':=by
 obtain⟨h',B,z,F,o'⟩:=s';have e:=ho;subst e;exact I.call u hok y j
end
abbrev XK:=OX->Option Addr->Hp->Prop
abbrev St:=List (Option V)
abbrev VK:=V->Hp->Prop
abbrev TE:=St->Hp->VK->Prop
abbrev TT:=St->Hp->(Bool->Hp->Prop)->Prop
abbrev TA:=St->Hp->(List V->Hp->Prop)->Prop
structure Ends where
 nx:St->Hp->Prop
 rt:VK
 bk:St->Hp->Prop:=λ_ _=>False
 ct:St->Hp->Prop:=λ_ _=>False
abbrev TS:=Ends->St->Hp->Prop
def EP (X:Cx)(pins:List (Addr×Obj))(σ:St)(Q:VK)(u:OX)(s':O0):Prop:=∃v H',Inv X pins σ H' s'/\RelV v u/\Q v H'
def TP (X:Cx)(pins:List (Addr×Obj))(σ:St)(Q:Bool->Hp->Prop)(b:Bool)(s':O0):Prop:=∃H',Inv X pins σ H' s'/\Q b H'
def AP (X:Cx)(pins:List (Addr×Obj))(σ:St)(Q:List V->Hp->Prop)(us:List OX)(s':O0):Prop:=∃j H',Inv X pins σ H' s'/\Vals j us/\Q j H'
def SP (X:Cx)(pins:List (Addr×Obj))(D:Ends)(f:Flow)(s':O0):Prop:=
 match f with
 |.next=>∃j H',Inv X pins j H' s'/\D.nx j H'
 |.brk=>∃j H',Inv X pins j H' s'/\D.bk j H'
 |.cont=>∃j H',Inv X pins j H' s'/\D.ct j H'
 |.ret u=>∃v j H',Inv X pins j H' s'/\RelV v u/\D.rt v H'
def PE (X:Cx)(e:Expr)(t:TE):Prop:=
 ∀(pins:List (Addr×Obj)) (s:O0) (σ:St) (H:Hp) (Q:VK),Inv X pins σ H s->t σ H Q->wpAny (model X.prog X.w) X.A (eval e X.env) (EP X pins σ Q) X.xe s
def PT (X:Cx)(e:Expr)(t:TT):Prop:=
 ∀(pins:List (Addr×Obj)) (s:O0) (σ:St) (H:Hp) (Q:Bool->Hp->Prop),Inv X pins σ H s->t σ H Q->wpAny (model X.prog X.w) X.A (isTrue e X.env (eval e X.env)) (TP X pins σ Q) X.xe s
def PW (X:Cx)(e:Expr)(t:TT):Prop:=
 ∀(whole:Sem OX) (pins:List (Addr×Obj)) (s:O0) (σ:St) (H:Hp) (Q:Bool->Hp->Prop),Inv X pins σ H s->t σ H Q->wpAny (model X.prog X.w) X.A (isTrue e X.env whole) (TP X pins σ Q) X.xe s
def PW.pt (h:PW X e t):PT X e t:=h _
def PA (X:Cx)(es:List Expr)(t:TA):Prop:=
 ∀(pos:Pos) (pins:List (Addr×Obj)) (s:O0) (σ:St) (H:Hp) (Q:List V->Hp->Prop),Inv X pins σ H s->t σ H Q->wpAny (model X.prog X.w) X.A (spliced (backTo pos (starEach es X.env))) (AP X pins σ Q) X.xe s
def PS (X:Cx)(st:Stmt)(t:TS):Prop:=
 ∀(pins:List (Addr×Obj)) (s:O0) (σ:St) (H:Hp) (D:Ends),Inv X pins σ H s->t D σ H->wpAny (model X.prog X.w) X.A (exec st X.env) (SP X pins D) X.xe s
def j5 (X:Cx)(st:List Stmt)(t:TS):Prop:=
 ∀(pins:List (Addr×Obj)) (s:O0) (σ:St) (H:Hp) (D:Ends),Inv X pins σ H s->t D σ H->wpAny (model X.prog X.w) X.A (execs st X.env) (SP X pins D) X.xe s
def aI {j:Type}{t:Sem j}{Q Q':j->O0->Prop}{M:Model}{A:Qx}{E:OX->O0->Prop}{s:O0}(h:wpAny M A t Q E s)(y:∀a s,Q a s->Q' a s):wpAny M A t Q' E s:=wpAny_mono h y λ_ _ x=>x
section
variable{X:Cx}
def Nk (i:Nat):TE:=λσ H Q=>∃v,σ[i]?=some (some v)/\Q v H
def tC (v:V):TE:=λ_ H Q=>Q v H
def y4 (F:X.N[i]?=some x)(J:wb X.env.scope x)(hd:(x==("__debug__":Str))=false:=by decide)(z:(x==("__classdict__":Str))=false:=by decide):PE X (.Name x pos) (Nk i):=by
 intro pins s σ H Q I h;obtain⟨v,e,h⟩:=h;obtain⟨m,hn,hl⟩:=I.loc;obtain⟨u,r,l⟩:=hl i x v F e J;have y:EP X pins σ Q u s:=⟨v,H,I,r,h⟩;rcases l with⟨hk,hm⟩|⟨hk,c,B,j⟩
 ·exact wpAny_Name (wpAny_loadName_local I.ok.kind hk hn hm y) hd
 ·rcases hk with hk|hk
  ·exact wpAny_Name (wpAny_loadName_cell I.ok.kind hk B j y) hd
  ·exact wpAny_Name (wpAny_loadName_free I.ok.kind hk B j y z) hd
def y8 {i j pos}:PE X (.Constant (.int i) j pos) (tC (.int i)):=λ_ _ _ H _ I h=>wpAny_Constant_int {.int i,H,I.tok _,{_,rfl},h}
def Lh {b j pos}:PE X (.Constant (.bool b) j pos) (tC (.bl b)):=λ_ _ _ H _ I h=>Constant_bool {.bl b,H,I,rfl,h}
def Io {j pos}:PE X (.Constant .none j pos) (tC .non):=λ_ _ _ H _ I h=>Constant_none {.non,H,I,rfl,h}
def Ik {x j pos}:PE X (.Constant (.str x) j pos) (tC (.str x)):=λ_ _ _ H _ I h=>Calls.Constant_str {.str x,H,I.tok _,{_,rfl},h}
def Gl (X:Cx)(x:Str):Prop:=X.env.kindOf x=some .globalImplicit
def gy (I:Inv X pins σ H s)(j:Gl X x)(hm:X.mg x=some u)(h:Q u s)
 (hd:(x==("__debug__":Str))=false:=by decide):wpAny (model X.prog X.w) X.A (eval (.Name x pos) X.env) Q E s:=
 Calls.Name_function_global I.ok.kind j (Calls.loadGlobal_global (by rw[I.ok.glob];exact I.mod.glob.keeps I.bk) hm h) hd
def fX (I:Inv X pins σ H s)(j:Gl X x)(hm:X.mg x=none)(y:bootBuiltins x=some u)(h:Q u s)
 (hn:x≠"__name__":=by decide) (hd:(x==("__debug__":Str))=false:=by decide):wpAny (model X.prog X.w) X.A (eval (.Name x pos) X.env) Q E s:=by
 obtain⟨z,h1,h2⟩:=I.mod.blt;exact Calls.Name_function_global I.ok.kind j (Calls.loadGlobal_builtin (by rw[I.ok.glob];exact I.mod.glob.keeps I.bk) hm (by rw[I.ok.blt];exact h1.keeps I.bk) ((h2 x hn).trans y) h) hd
def jQ (j:Gl X x)(hm:X.mg x=some u)(r:RelV v u)(hd:(x==("__debug__":Str))=false:=by decide):PE X (.Name x pos) (tC v):=
 λ_ _ _ H _ I h=>gy I j hm ⟨v,H,I,r,h⟩ hd
def Fw (j:Gl X x)(hm:X.mg x=none)(y:bootBuiltins x=some u)(r:RelV v u)(hn:x≠"__name__":=by decide)(hd:(x==("__debug__":Str))=false:=by decide):PE X (.Name x pos) (tC v):=
 λ_ _ _ H _ I h=>fX I j hm y ⟨v,H,I,r,h⟩ hn hd
variable{a b:Expr}{ta tb:TE}{pos:Pos}
variable{tA tB':TT}{rest:List Expr}
def d8 (t u:TT):TT:=λσ H Q=>t σ H λc H1=>if c=true then u σ H1 Q else Q false H1
def ff (t u:TT):TT:=λσ H Q=>t σ H λc H1=>if c=true then Q true H1 else u σ H1 Q
def b3 (t:TT):TT:=λσ H Q=>t σ H λc H1=>Q (!c) H1
def Fj (j:PT X a tA):PW X (.BoolOp .And [a] pos) tA:=by
 intro y pins s σ H Q I h;refine isTrue_and (aI (j pins s σ H Q I h) λc s1 e=>?_);cases c with
 |true=>exact isTrue_and_nil e
 |false=>exact e
def H8 (j:PT X a tA):PW X (.BoolOp .Or [a] pos) tA:=by
 intro y pins s σ H Q I h;refine isTrue_or (aI (j pins s σ H Q I h) λc s1 e=>?_);cases c with
 |false=>exact isTrue_or_nil e
 |true=>exact e
def H9 (z:PT X a tA)(B:PW X (.BoolOp .And (b::rest) pos) tB'):PW X (.BoolOp .And (a::b::rest) pos) (d8 tA tB'):=by
 intro F pins s σ H Q I h;refine isTrue_and (aI (z pins s σ H _ I h) λc s1 ⟨H1,j,y⟩=>?_);cases c with
 |true=>exact B F pins s1 σ H1 Q j y
 |false=>exact⟨H1,j,y⟩
def Lc (z:PT X a tA)(B:PW X (.BoolOp .Or (b::rest) pos) tB'):PW X (.BoolOp .Or (a::b::rest) pos) (ff tA tB'):=by
 intro F pins s σ H Q I h;refine isTrue_or (aI (z pins s σ H _ I h) λc s1 ⟨H1,j,y⟩=>?_);cases c with
 |true=>exact⟨H1,j,y⟩
 |false=>exact B F pins s1 σ H1 Q j y
def Ib (j:PT X a tA):PT X (.UnaryOp .Not a pos) (b3 tA):=by
 intro pins s σ H Q I h;exact isTrue_not (j pins s σ H (λc H1=>Q (!c) H1) I h)
def K0 (ta tb:TE):TE:=λσ H Q=>ta σ H λx H1=>∃c,x=.bl c/\if c=true then tb σ H1 Q else Q (.bl false) H1
def Np (ta tb:TE):TE:=λσ H Q=>ta σ H λx H1=>∃c,x=.bl c/\if c=true then Q (.bl true) H1 else tb σ H1 Q
def KS (ta:TE):TE:=λσ H Q=>ta σ H λx H1=>∃c,x=.bl c/\Q (.bl (!c)) H1
def Il {op}(h:PE X a t):PE X (.BoolOp op [a] pos) t:=λpins s σ H Q I j=>BoolOp_one (h pins s σ H Q I j)
def Ir (z:PE X a ta)(B:PE X (.BoolOp .And (b::rest) pos) tb):PE X (.BoolOp .And (a::b::rest) pos) (K0 ta tb):=by
 intro pins s σ H Q I h;refine BoolOp_and (aI (z pins s σ H _ I h) λv s1 ⟨x,H1,y,r1,j⟩=>?_);obtain⟨c,rfl,j⟩:=j;cases r1;refine tqp ?_;cases c with
 |true=>exact B pins s1 σ H1 Q y j
 |false=>exact{.bl false,H1,y,rfl,j}
def Le (z:PE X a ta)(B:PE X (.BoolOp .Or (b::rest) pos) tb):PE X (.BoolOp .Or (a::b::rest) pos) (Np ta tb):=by
 intro pins s σ H Q I h;refine BoolOp_or (aI (z pins s σ H _ I h) λv s1 ⟨x,H1,y,r1,j⟩=>?_);obtain⟨c,rfl,j⟩:=j;cases r1;refine tqp ?_;cases c with
 |false=>exact B pins s1 σ H1 Q y j
 |true=>exact{.bl true,H1,y,rfl,j}
def Im (z:PE X a ta):PE X (.UnaryOp .Not a pos) (KS ta):=by
 intro pins s σ H Q I h;refine UnaryOp_ (aI (z pins s σ H _ I h) λv s1 ⟨x,H1,y,r1,j⟩=>?_);obtain⟨c,rfl,j⟩:=j;cases r1;exact not_of (tqp {.bl (!c),H1,y,rfl,j})
def tIf (t:TT)(ta tb:TE):TE:=λσ H Q=>t σ H λc H1=>if c=true then ta σ H1 Q else tb σ H1 Q
def sW (F:PT X c tA)(z:PE X a ta)(B:PE X b tb):PE X (.IfExp c a b pos) (tIf tA ta tb):=by
 intro pins s σ H Q I h;refine wpAny_IfExp (aI (F pins s σ H _ I h) λd s1 ⟨H1,j,y⟩=>?_);cases d with
 |true=>exact z pins s1 σ H1 Q j y
 |false=>exact B pins s1 σ H1 Q j y
end
def c9 (K:OU)(H:Hp)(a:Addr)(xs:List V):Prop:=
 Rd H a (.lst xs)\/
  ∃(o:Obj) (j:Array OX) (n:Nat),K.lookup a=some o/\o.cls=.type "list"/\o.dict=none/\o.data=.seq j n/\j.size<=sizeLine/\Vals xs j.toList
def dD (K:OU)(H:Hp)(a:Addr)(xs:List V):Prop:=
 Rd H a (.tup xs)\/
  ∃(o:Obj) (j:Array OX) (n:Nat),K.lookup a=some o/\o.cls=.type "tuple"/\o.data=.seq j n/\j.size<=sizeLine/\Vals xs j.toList
noncomputable def Ox:OX->Option V
 |.none=>some .non
 |.bool b=>some (.bl b)
 |.int i _=>some (.int i)
 |.str x _=>some (.str x)
 |.bytes b _=>some (.byt b)
 |.float b _=>some (.flt b)
 |.ref a=>some (.ref a)
 |.type n=>some (.ty n)
 |_=>none
def RelV.abs (r:RelV x u):Ox u=some x:=by
 cases x with
 |non=>cases r;rfl
 |bl _=>cases r;rfl
 |int _=>obtain⟨t,rfl⟩:=r;rfl
 |str _=>obtain⟨t,rfl⟩:=r;rfl
 |byt _=>obtain⟨t,rfl⟩:=r;rfl
 |flt _=>obtain⟨t,rfl⟩:=r;rfl
 |ref _=>cases r;rfl
 |ty _=>cases r;rfl
def RelV.inj (r:RelV x u)(q:RelV y u):x=y:=O2 (r.abs.symm.trans q.abs)
def Vals.inj:∀{xs ys:List V}{us:List OX},Vals xs us->Vals ys us->xs=ys
 |_,_,_,.nil,.nil=>rfl
 |_,_,_,.cons r t,.cons j y=>by rw[r.inj j,Vals.inj t y]
section
variable{X:Cx}{pins:List (Addr×Obj)}{σ:St}{H:Hp}{s:O0}{a:Addr}{xs ys:List V}
def c9.of {K:OU}(h:H a=some (.lst xs)):c9 K H a xs:=.inl (.inl h)
def dD.of {K:OU}(h:H a=some (.tup xs)):dD K H a xs:=.inl (.inl h)
def Inv.list (I:Inv X pins σ H s)(h:c9 X.K H a xs):∃j:List OX,Vals xs j/\PlainL s.heap a j.toArray/\xs.length<=sizeLine:=by
 rcases h with h|⟨o,j,n,hk,y,hd,hs,B,r⟩
 ·obtain⟨z,j,n,r,e⟩:=h.ok I.hok;exact{j,r,{_,n,e,rfl,rfl,rfl},z}
 ·refine{j.toList,r,{o,n,I.kIn a o hk,y,hd,by simpa using hs},?_}
  have e:=r.length;simp only[QY] at e;omega
def Inv.tuple (I:Inv X pins σ H s)(h:dD X.K H a xs):∃j:List OX,Vals xs j/\IsTup s.heap a j.toArray/\xs.length<=sizeLine:=by
 rcases h with h|⟨o,j,n,hk,y,hs,B,r⟩
 ·obtain⟨z,j,r,p⟩:=h.ok I.hok;exact⟨j,r,p,z⟩
 ·refine{j.toList,r,{o,I.kIn a o hk,y,n,by simpa using hs},?_}
  have e:=r.length;simp only[QY] at e;omega
def Inv.list_inj (I:Inv X pins σ H s)(h:c9 X.K H a xs)(h':c9 X.K H a ys):xs=ys:=by
 obtain⟨y,r,⟨o,n,e,_,_,d⟩,_⟩:=I.list h;obtain⟨j,F,⟨o',J,B,_,_,z⟩,_⟩:=I.list h';rw[e] at B;cases B;rw[d] at z;injection z with d1 _
 have:y=j:=by simpa using congrArg Array.toList d1
 subst this;exact r.inj F
def Inv.tuple_inj (I:Inv X pins σ H s)(h:dD X.K H a xs)(h':dD X.K H a ys):xs=ys:=by
 obtain⟨y,r,⟨o,e,_,n,d⟩,_⟩:=I.tuple h;obtain⟨j,F,⟨o',B,_,J,z⟩,_⟩:=I.tuple h';rw[e] at B;cases B;rw[d] at z;injection z with d1 _
 have:y=j:=by simpa using congrArg Array.toList d1
 subst this;exact r.inj F
end
section
variable{X:Cx}{st:Stmt}{rest:List Stmt}{t u:TS}{e:Expr}{te:TE}{pos:Pos}
def CS:TS:=λD σ H=>D.nx σ H
def Nm (t u:TS):TS:=λD σ H=>t {D with nx:=u D} σ H
def pP:j5 X [] CS:=λ_ _ σ H _ I h=>wpAny_execs_nil ⟨σ,H,I,h⟩
def kn (h1:PS X st t)(h2:j5 X rest u):j5 X (st::rest) (Nm t u):=by
 intro pins s σ H D I h;refine wpAny_execs_cons (aI (h1 pins s σ H {D with nx:=u D} I h) λf s1 q=>?_)
 cases f with
 | next =>
   obtain⟨j,H',y,q⟩:=q;exact h2 pins s1 j H' D y q
 |ret v=>exact q
 |brk=>exact q
 |cont=>exact q
def KY:TS:=λD σ H=>D.ct σ H
def Fo:PS X (.Pass pos) CS:=λ_ _ σ H _ I h=>wpAny_Pass ⟨σ,H,I,h⟩
def uR:PS X (.Continue pos) KY:=λ_ _ σ H _ I h=>wpAny_Continue ⟨σ,H,I,h⟩
def Inv.quiet (I:Inv X pins σ H s):interactive X.env=false:=by simp[interactive,I.ok.kind]
def KW (te:TE):TS:=λD σ H=>te σ H λ_ H1=>D.nx σ H1
def my (he:PE X e te)(hs:swapsWith e none pos.line X.env=pure false:=by rfl):PS X (.Expr e pos) (KW te):=by
 intro pins s σ H D I h;exact wpAny_Expr_any (aI (he pins s σ H _ I h) λv s1 ⟨x,H1,j,r1,y⟩=>⟨σ,H1,j,y⟩) I.quiet hs
def Nn (te:TE):TS:=λD σ H=>te σ H D.rt
def yW (he:PE X e te):PS X (.Return (some e) pos) (Nn te):=by
 intro pins s σ H D I h;exact wpAny_Return_some (aI (he pins s σ H _ I h) λv s1 ⟨x,H1,j,r1,y⟩=>⟨x,σ,H1,j,r1,y⟩)
def KQ:TS:=λD _ H=>D.rt .non H
def Fn:PS X (.Return none pos) KQ:=λ_ _ σ H _ I h=>wpAny_Return_none {.non,σ,H,I,rfl,h}
def Nr (c:TT)(t u:TS):TS:=λD σ H=>c σ H λb H1=>if b=true then t D σ H1 else u D σ H1
def C0 (F:PT X c tc)(z:j5 X a t)(B:j5 X b u):PS X (.If c a b pos) (Nr tc t u):=by
 intro pins s σ H D I h;refine wpAny_If (aI (F pins s σ H _ I h) λd s1 ⟨H1,j,y⟩=>?_);cases d with
 |true=>exact z pins s1 σ H1 D j y
 |false=>exact B pins s1 σ H1 D j y
end
abbrev TG:=V->St->Hp->(St->Hp->Prop)->Prop
abbrev wd:=List V->St->Hp->(St->Hp->Prop)->Prop
def PG (X:Cx)(j:Expr)(t:TG):Prop:=
 ∀(pins:List (Addr×Obj)) (s:O0) (σ:St) (H:Hp) (v:V) (u:OX) (Q:St->Hp->Prop),Inv X pins σ H s->RelV v u->t v σ H Q->
  wpAny (model X.prog X.w) X.A (assign j X.env u) (λ_ s'=>∃y H',Inv X pins y H' s'/\Q y H') X.xe s
def uL (X:Cx)(ts:List Expr)(t:wd):Prop:=
 ∀(pins:List (Addr×Obj)) (s:O0) (σ:St) (H:Hp) (z:List V) (y:List OX) (Q:St->Hp->Prop),Inv X pins σ H s->Vals z y->t z σ H Q->
  wpAny (model X.prog X.w) X.A (assignInOrder ((assignEach ts X.env).map (·.2)) y) (λ_ s'=>∃j H',Inv X pins j H' s'/\Q j H') X.xe s
abbrev Ck:=V->V->V->Hp->(Hp->Prop)->Prop
def Cn (X:Cx)(t:Ck):Prop:=
 ∀(pins:List (Addr×Obj)) (s:O0) (σ:St) (H:Hp) (o i v:V) (y j u:OX) (Q:Hp->Prop),Inv X pins σ H s->RelV o y->RelV i j->RelV v u->t o i v H Q->
  wpAny (model X.prog X.w) X.A (setItem y j u) (λ_ s'=>∃H',Inv X pins σ H' s'/\Q H') X.xe s
abbrev Kt:=V->V->Hp->VK->Prop
def Nb (X:Cx)(op:Operator)(t:Kt):Prop:=
 ∀(pins:List (Addr×Obj)) (s:O0) (σ:St) (H:Hp) (x y:V) (v u:OX) (Q:VK),Inv X pins σ H s->RelV x v->RelV y u->t x y H Q->
  wpAny (model X.prog X.w) X.A (inplaceOp op v u) (EP X pins σ Q) X.xe s
section
variable{X:Cx}{pos:Pos}
def LF (i:Nat):TG:=λv σ H Q=>Q (σ.set i (some v)) H
def pQ (y:X.N.Nodup)(hi:X.N[i]?=some x)(z:Loc X.env.scope x)(hf:X.fn x=true\/X.env.scope.names.lookup x=some .local:=by first|exact .inl rfl|exact .inr rfl|assumption):PG X (.Name x pos) (LF i):=by
 intro pins s σ H v u Q I r h;exact wpAny_assign_Name (su I y hi z r (λs' j=>{_,H,j,h}) hf)
noncomputable def bx:wd:=λj σ H Q=>j=[]/\Q σ H
def b7 (t:TG)(u:wd):wd:=λy σ H Q=>∃v r,y=v::r/\t v σ H λj H'=>u r j H' Q
def vi:uL X [] bx:=by
 intro pins s σ H y j Q I r h;obtain⟨e,h⟩:=h;subst e;cases r;exact assignInOrder_nil ⟨σ,H,I,h⟩
def nE (h1:PG X e t)(h2:uL X es u)
 (hs:(assignEach (e::es) X.env).map (·.2)=assign e X.env::(assignEach es X.env).map (·.2):=by rfl):uL X (e::es) (b7 t u):=by
 intro pins s σ H J F Q I r h;obtain⟨v,vr,e1,h⟩:=h;subst e1;cases r with
 | cons r B =>
   rw[hs];refine assignInOrder_cons (aI (h1 pins s σ H _ _ _ I r h) λ_ s1 ⟨j,H1,y,z⟩=>?_);exact h2 pins s1 j H1 _ _ Q y B z
def bu (K:OU)(n:Nat)(t:wd):TG:=λv σ H Q=>∃a xs,v=.ref a/\dD K H a xs/\xs.length=n/\t xs σ H Q
def sU (F:X.calm=true)(h:uL X es t)
 (hn:(assignEach es X.env).length=n:=by rfl) (j:(assignEach es X.env).findIdx? (·.1)=none:=by rfl):PG X (.Tuple es k pos) (bu X.K n t):=by
 intro pins s σ H v u Q I r y;obtain⟨a,xs,e1,J,hl,y⟩:=y;subst e1;cases r;obtain⟨O,z,L,R⟩:=I.tuple J;refine assign_Tuple_tuple (I.ok.hd F) L (by simp[hn,<- hl,z.length]) j λh' M=>?_
 have B:=I.kept (t':=s.toks) λb o e=>M b o (Pu (Pe e)) e;exact h pins _ σ H xs _ Q B (by simpa using z) y
def Ob (to y:TE)(t:Ck):TG:=λv σ H Q=>to σ H λo H1=>y σ H1 λi H2=>t o i v H2 λj=>Q σ j
def y3 (ho:PE X o to)(hi:PE X i ti)(hs:Cn X t)
 (M:∀v,assign (.Subscript o i pos) X.env v=(do
  let j <- holding [v] (eval o X.env)
  let z <- holding [v,j] (eval i X.env)
  standAt pos
  holding [v,j,z] (setItem j z v)
  release [v,j,z] []):=by intro _;rfl):PG X (.Subscript o i pos) (Ob to ti t):=by
 intro pins s σ H v u Q I r h;rw[M];refine tqa (tqo (aI (ho pins s σ H _ I h) λj s1 ⟨x,H1,F,r1,O⟩=>?_));refine tqa (tqo (aI (hi pins s1 σ H1 _ F O) λz s2 ⟨y,H2,J,r2,R⟩=>?_));refine tqa (wpAny_standAt (tqa (tqo (aI (hs pins s2 σ H2 x y v j z u _ J r1 r2 r R) λ_ U ⟨B,L,S⟩=>?_))));exact wpAny_release ⟨σ,B,L,S⟩
def Nw (te:TE)(g:TG):TS:=λD σ H=>te σ H λx H1=>g x σ H1 D.nx
def lF (he:PE X e te)(y:PG X tg g)(hs:swapsWithSole [tg] e pos.line X.env=pure false:=by rfl)(z:swappedStores [tg] e X.env=pure none:=by rfl)
 (h1:(assignEach [tg] X.env).map (·.2)=[assign tg X.env]:=by rfl):PS X (.Assign [tg] e pos) (Nw te g):=by
 intro pins s σ H D I h;refine wpAny_Assign_stores (aI (he pins s σ H _ I h) λv s1 ⟨x,H1,j,r1,B⟩=>?_) hs z;rw[h1];exact aI (y pins s1 σ H1 x v _ j r1 B) λ_ s2 q=>q
def Nv (i:Nat)(te:TE)(j:Kt):TS:=λD σ H=>∃x,σ[i]?=some (some x)/\te σ H λy H1=>j x y H1 λz H2=>D.nx (σ.set i (some z)) H2
def Ig (S:X.N.Nodup)(hi:X.N[i]?=some x)(J:Loc X.env.scope x)(he:PE X e te)(ho:Nb X op ti)(hf:X.fn x=true\/X.env.scope.names.lookup x=some .local:=by first|exact .inl rfl|exact .inr rfl|assumption) :
 PS X (.AugAssign (.Name x pos') op e pos) (Nv i te ti):=by
 intro pins s σ H D I h;obtain⟨v,e1,h⟩:=h;obtain⟨m,hn,hl⟩:=I.loc;have L:wb X.env.scope x:=by rcases J with k|k;exact .inl k;exact .inr (.inl k)
 obtain⟨u,r,l⟩:=hl i x v hi e1 L;refine wpAny_AugAssign_Name ?_;have go:wpAny (model X.prog X.w) X.A (eval e X.env) (λw B=>wpAny (model X.prog X.w) X.A (inplaceOp op u w) (λr F=>wpAny (model X.prog X.w) X.A (storeName X.env x r) (λ_=>SP X pins D .next) X.xe F) X.xe B) X.xe s:=by
  refine aI (he pins s σ H _ I h) λw s1 ⟨y,H1,M,r1,W⟩=>?_;refine aI (ho pins s1 σ H1 v y u w _ M r r1 W) λz s2 ⟨zv,H2,O,r2,Y⟩=>?_;exact su O S hi J r2 (λs3 R=>{_,H2,R,Y}) hf
 rcases l with⟨hk,hm⟩|⟨hk,c,U,j⟩
 ·exact wpAny_loadName_local I.ok.kind hk hn hm go
 ·rcases hk with hk|hk
  ·exact wpAny_loadName_cell I.ok.kind hk U j go
  ·rcases J with k|k
   ·have:X.env.scope.names.lookup x=some .free:=hk;rw[k] at this;cases this
   ·have:X.env.scope.names.lookup x=some .free:=hk;rw[k] at this;cases this
def ipI (f:Int->Int->Int):Kt:=λx y H Q=>∃i j,x=.int i/\y=.int j/\Q (.int (f i j)) H
def Jp:Nb X .Add (ipI λi j=>i+j):=by
 intro pins s σ H x y v u Q I r1 r2 h;obtain⟨i,j,e1,e2,q⟩:=h;subst e1;subst e2;obtain⟨t,rfl⟩:=r1;obtain⟨z,rfl⟩:=r2;exact iadd_int {.int _,H,I.tok _,{_,rfl},q}
end
section
variable{X:Cx}{pos:Pos}
def Hm (c:TT)(tb:TS):TS:=λD σ H=>∃W:Nat->St->Hp->Prop,(∃m,W m σ H)/\∀m σ H,W m σ H->
 c σ H λb H1=>if b=true then ∃N:St->Hp->Prop,(∀j H',N j H'->∃y,y<m/\W y j H')/\tb {D with nx:=N,ct:=N,bk:=D.nx} σ H1 else D.nx σ H1
def Bo (Y:PassesOwn (model X.prog X.w) X.A X.env X.xe)(hc:PT X c tc)(hb:j5 X body tb):PS X (.While c body [] pos) (Hm tc tb):=by
 intro pins s σ H D I h;obtain⟨W,⟨m0,w0⟩,turn⟩:=h;refine wpAny_While (codeAny_whileLoop (λn s'=>∃B H',Inv X pins B H' s'/\W n B H') ?_ m0 ⟨σ,H,I,w0⟩);rintro n s1 ⟨y,H1,I1,w1⟩;refine wpAny_passesOwn Y (aI (hc pins s1 y H1 _ I1 (turn n y H1 w1)) λb s2 ⟨H2,S,F⟩=>?_);cases b with
 | true =>
   obtain⟨N,U,F⟩:=F;rw[if_pos rfl];refine wpAny_passesOwn Y (aI (hb pins s2 y H2 _ S F) λf s3 J=>?_);cases f with
   | next =>
     obtain⟨j,z,L,O⟩:=J;obtain⟨M,hm,R⟩:=U j z O;exact⟨M,hm,j,z,L,R⟩
   | cont =>
     obtain⟨j,z,L,O⟩:=J;obtain⟨M,hm,R⟩:=U j z O;exact⟨M,hm,j,z,L,R⟩
   |brk=>exact J
   |ret v=>exact J
 | false =>
   rw[if_neg Pq];exact wpAny_execs_nil ⟨y,H2,S,F⟩
end
structure It where
 go:Nat->Hp->Prop
 yld:Nat->Hp->V->Hp->Prop
 stop:Nat->Hp->Prop
def eR (X:Cx)(pins:List (Addr×Obj))(H:Hp)(b:Addr):Prop:=
 H b=none/\b≠X.env.locals/\b∉X.fs/\(b∈X.ex\/X.s₀.heap.objs.size<=b)/\(∀x c,X.env.cells.lookup x=some c->c≠b)/\∀p∈X.pn++pins,p.1≠b
def Inv.fpOk (I:Inv X pins σ H s)(j:s.heap.objs.size<=b)(hn:H' b=none):eR X pins H' b:=by
 refine{hn,PX (Pj I.lt j),I.nofs j,.inr (Pa I.sz j),λx c e z=>?_,λp y z=>?_}
 ·obtain⟨v,q⟩:=I.cell x c e;exact absurd (Pj q.lt (by rw[z];exact j)) (Qj _)
 ·exact absurd (Pj (Pe (I.pin p y).1) (by rw[z];exact j)) (Qj _)
structure Turn (P:PH) (w:PC) (K:OU) (tg:Expr) (J:It) (fp:List Addr) (it:Addr) (tn:Nat->Heap->Prop):Prop where
 mem:it∈fp
 obj:∀i h,tn i h->∀b∈fp,∃o,h.get? b=some o/\∀v,o.data≠.cell v
 keep:∀i h h',tn i h->(∀b∈fp,∀o,h.get? b=some o->h'.get? b=some o)->tn i h'
 item:∀(X:Cx),X.prog=P->X.w=w->X.K=K->X.calm=true->∀(i:Nat) (pins:List (Addr×Obj)) (s:O0) (σ:St) (H:Hp) (E:OX->O0->Prop),Inv X pins σ H s->(∀b∈fp,eR X pins H b)->tn i s.heap->J.go i H->
  wpAny (model P w) X.A (pyNext (.ref it)) (λr s1=>∃u,r=some u/\
   wpAny (model P w) X.A (letOwnedTupleGo tg (.ref it) u) (λ_ s2=>∃x H',Inv X pins σ H' s2/\RelV x u/\J.yld i H x H'/\tn (i+1) s2.heap/\∀b∈fp,H' b=none) E s1) E s
 done:∀(X:Cx),X.prog=P->X.w=w->X.K=K->X.calm=true->∀(i:Nat) (pins:List (Addr×Obj)) (s:O0) (σ:St) (H:Hp) (E:OX->O0->Prop),Inv X pins σ H s->(∀b∈fp,eR X pins H b)->tn i s.heap->J.stop i H->
  wpAny (model P w) X.A (pyNext (.ref it)) (λr s1=>r=none/\Inv X pins σ H s1) E s
 self:∀(A:Qx) (i:Nat) (s:O0) (Q:OX->O0->Prop) (E:OX->O0->Prop),tn i s.heap->Q (.ref it) s->wpAny (model P w) A (pyIter (.ref it)) Q E s
abbrev TI:=St->Hp->(It->Hp->Prop)->Prop
def Kv (X:Cx)(pins:List (Addr×Obj))(σ:St)(tg:Expr)(R:It->Hp->Prop)(j:OX)(s2:O0):Prop:=
 ∃(z:Addr) (y:List Addr) (B:Nat->Heap->Prop) (J:It) (H':Hp),j=.ref z/\Inv X pins σ H' s2/\Turn X.prog X.w X.K tg J y z B/\B 0 s2.heap/\(∀b∈y,eR X pins H' b)/\R J H'
def PI (X:Cx)(tg j:Expr)(y:TI):Prop:=
 ∀(pins:List (Addr×Obj)) (s:O0) (σ:St) (H:Hp) (R:It->Hp->Prop),Inv X pins σ H s->y σ H R->
  wpAny (model X.prog X.w) X.A (eval j X.env) (λv s1=>wpAny (model X.prog X.w) X.A (pyIter v) (Kv X pins σ tg R) X.xe s1) X.xe s
def xb (ho:s.heap.get? it=some o)(y:o.cls=.type n)(hd:o.data=.fields vs)
 (hn:["enumerate","zip","dict_itemiterator","dict_reverseitemiterator","odict_iterator","itertools.zip_longest","itertools.pairwise"].contains n=false) (j:Q () s):wpAny M A (letOwnedTupleGo tg (.ref it) u) Q E s:=by
 cases tg<;>first
  |exact tqb j
  |(cases u<;>first
   |exact tqb j
   | (refine tqa (wpAny_load ho ?_)
      rw[y,hd];show wpAny M A (if (["enumerate","zip","dict_itemiterator","dict_reverseitemiterator","odict_iterator","itertools.zip_longest","itertools.pairwise"].contains n&&vs[0]?==some (rawInt _))=true then _ else _) Q E s;rw[if_neg (by intro h;rw[hn,Bool.false_and] at h;cases h)]
      exact tqb j))
def Ky (K:OU)(a:Addr):It:=
 {λi H=>∃xs x,c9 K H a xs/\xs[i]?=some x,λi H x H'=>H'=H/\∀xs,c9 K H a xs->xs[i]?=some x,λi H=>∃xs,c9 K H a xs/\xs.length<=i}
def Kx (K:OU)(a:Addr):It:=
 {λi H=>∃xs x,dD K H a xs/\xs[i]?=some x,λi H x H'=>H'=H/\∀xs,dD K H a xs->xs[i]?=some x,λi H=>∃xs,dD K H a xs/\xs.length<=i}
def D8 (lo:Int)(n:Nat):It:={λi _=>i<n,λi H x H'=>H'=H/\x=.int (lo+i),λi _=>n<=i}
def yj {K:OU}(a y:Addr):Turn P w K tg (Ky K a) [y] y (λi h=>h.IsListIter y a i) where
 mem:=`s
 obj:=λi h st b j=>by
  have e:b=y:=by simpa using j
  subst e;obtain⟨o,e,c,d⟩:=st;exact{o,e,λv z=>by rw[d] at z;cases z}
 keep:=λi h h' st k=>st.at λo e=>k y `s o e
 item:=by
  intro X S Y R hc i pins s σ H E I hf st U;subst S Y R;obtain⟨xs,x,F,hx⟩:=U;obtain⟨its,rv,p,hz⟩:=I.list F;obtain⟨u,hu,ru⟩:=rv.get hx;obtain⟨J,f1,f2,L,M,O⟩:=hf y `s
  refine wpAny_pyNext_list_item st p.isList (by simpa using hu) λh' B sb=>?_
  have I1:=I.turned (t':=s.toks) (λb o j e=>(sb.2 b j).trans e) J f1 L M O;obtain⟨o,e,c,d⟩:=id B;exact{u,rfl,xb e c d `d {x,H,I1,ru,{rfl,λys hy=>by rw[I.list_inj hy F];exact hx},B,λb j=>(hf b j).1}}
 done:=by
  intro X S Y R hc i pins s σ H E I hf st U;subst S Y R;obtain⟨xs,F,hx⟩:=U;obtain⟨its,rv,p,hz⟩:=I.list F;obtain⟨J,f1,f2,L,M,O⟩:=hf y `s
  have hl:=rv.length;exact wpAny_pyNext_list_end (I.ok.hd hc) st p.isList `o λh' eb=>{rfl,I.turned (λb o j e=>eb b o j e) J f1 L M O}
 self:=λ_ _ _ _ _ st h=>wpAny_pyIter_listiter st h
def wm {K:OU}(a y:Addr):Turn P w K tg (Kx K a) [y] y (λi h=>h.IsTupleIter y a i) where
 mem:=`s
 obj:=λi h st b j=>by
  have e:b=y:=by simpa using j
  subst e;obtain⟨o,e,c,d⟩:=st;exact{o,e,λv z=>by rw[d] at z;cases z}
 keep:=λi h h' st k=>st.at λo e=>k y `s o e
 item:=by
  intro X S Y R hc i pins s σ H E I hf st U;subst S Y R;obtain⟨xs,x,F,hx⟩:=U;obtain⟨its,rv,p,hz⟩:=I.tuple F;obtain⟨u,hu,ru⟩:=rv.get hx;obtain⟨J,f1,f2,L,M,O⟩:=hf y `s
  refine wpAny_pyNext_tuple_item st (p) (by simpa using hu) λh' B sb=>?_
  have I1:=I.turned (t':=s.toks) (λb o j e=>(sb.2 b j).trans e) J f1 L M O;obtain⟨o,e,c,d⟩:=id B;exact{u,rfl,xb e c d `d {x,H,I1,ru,{rfl,λys hy=>by rw[I.tuple_inj hy F];exact hx},B,λb j=>(hf b j).1}}
 done:=by
  intro X S Y R hc i pins s σ H E I hf st U;subst S Y R;obtain⟨xs,F,hx⟩:=U;obtain⟨its,rv,p,hz⟩:=I.tuple F;obtain⟨J,f1,f2,L,M,O⟩:=hf y `s
  have hl:=rv.length;exact wpAny_pyNext_tuple_end (I.ok.hd hc) st (p) `o λh' eb=>{rfl,I.turned (λb o j e=>eb b o j e) J f1 L M O}
 self:=λ_ _ _ _ _ st h=>wpAny_pyIter_tupleiter st h
def wo {K:OU}(j:Addr)(lo:Int)(n:Nat):Turn P w K tg (D8 lo n) [j] j (λi h=>IsRangeIter h j (lo+(i:Nat)*1) ((n:Int)-(i:Nat)) 1) where
 mem:=`s
 obj:=λi h st b y=>by
  have e:b=j:=by simpa using y
  subst e;exact{_,st,λv z=>by
   have z':=z;cases z'}
 keep:=λi h h' st k=>k j `s _ st
 item:=by
  intro X R Y O S i pins s σ H E I hf st U;subst R Y O;obtain⟨F,f1,f2,J,L,M⟩:=hf j `s
  have W:=Walks.range (prog:=X.prog) (w:=X.w) (I.ok.hd S) j lo 1 n;refine W.item i s _ _ U st λv h' tk hv B kk=>?_;obtain⟨t,rfl⟩:=hv;have I1:Inv X pins σ H {s with heap:=h',toks:=tk}:=I.turned (λb o y e=>kk b o (by simpa using y) e) F f1 J L M
  refine{_,rfl,xb B rfl rfl `d {.int (lo+i),H,I1,{t,?_},⟨rfl,rfl⟩,B,λb y=>(hf b y).1}}
  rw[Int.mul_one]
 done:=by
  intro X R Y O S i pins s σ H E I hf st U;subst R Y O;obtain⟨F,f1,f2,J,L,M⟩:=hf j `s
  exact wpAny_pyNext_range_end (I.ok.hd S) st (by have:n<=i:=U;omega) λh' eb=>{rfl,I.turned (λb o y e=>eb b o y e) F f1 J L M}
 self:=λ_ _ _ _ _ st h=>wpAny_pyIter_rangeiter st h
section
variable{X:Cx}{tg:Expr}
def LC (K:OU)(tl:TE):TI:=λσ H R=>tl σ H λx H1=>∃a,x=.ref a/\(∃xs,c9 K H1 a xs)/\R (Ky K a) H1
def Oa (K:OU)(tl:TE):TI:=λσ H R=>tl σ H λx H1=>∃a,x=.ref a/\(∃xs,dD K H1 a xs)/\R (Kx K a) H1
def Fs (hl:PE X l tl):PI X tg l (LC X.K tl):=by
 intro pins s σ H R I h;refine aI (hl pins s σ H _ I h) λv s1 ⟨x,H1,j,r1,F⟩=>?_;obtain⟨a,e,⟨xs,z⟩,q⟩:=F;subst e;cases r1;obtain⟨B,L,p,J⟩:=j.list z;refine wpAny_pyIter_list p.isList ?_;refine{s1.heap.objs.size,[s1.heap.objs.size],_,_,H1,rfl,j.kept λb o e=>OW _ e,yj a _,{_,Ph _ rfl,rfl,rfl},λb y=>?_,q};have e:b=s1.heap.objs.size:=by simpa using y
 subst e;exact j.fpOk (OZ _) (j.hok.fresh (OZ _))
def Ih (hl:PE X l tl):PI X tg l (Oa X.K tl):=by
 intro pins s σ H R I h;refine aI (hl pins s σ H _ I h) λv s1 ⟨x,H1,j,r1,F⟩=>?_;obtain⟨a,e,⟨xs,z⟩,q⟩:=F;subst e;cases r1;obtain⟨B,L,p,J⟩:=j.tuple z;refine wpAny_pyIter_tuple (p) ?_;refine{s1.heap.objs.size,[s1.heap.objs.size],_,_,H1,rfl,j.kept λb o e=>OW _ e,wm a _,{_,Ph _ rfl,rfl,rfl},λb y=>?_,q};have e:b=s1.heap.objs.size:=by simpa using y
 subst e;exact j.fpOk (OZ _) (j.hok.fresh (OZ _))
def Bl {lo hi:Int}(I:Inv X pins σ H s)(h1:-(2^62)<=lo)(h2:lo<2^62)(h3:-(2^62)<=hi)(h4:hi<2^62)
 (q:R (D8 lo (hi-lo).toNat) H):wpAny (model X.prog X.w) X.A (pyIter (.ref s.heap.objs.size)) (Kv X pins σ tg R) E {s with heap:=s.heap.push {cls:=.type "range",data:=.fields #[.int lo t,.int hi u,.int 1 v]},toks:=tk}:=by
 refine wpAny_pyIter_range (IsRange.new ..) (small_one h1 h2 h3 h4) ?_;have j:Inv X pins σ H {s with heap:=s.heap.push {cls:=.type "range",data:=.fields #[.int lo t,.int hi u,.int 1 v]},toks:=tk}:=I.kept λb o e=>OW _ e
 refine{(s.heap.push {cls:=.type "range",data:=.fields #[.int lo t,.int hi u,.int 1 v]}).objs.size,[(s.heap.push {cls:=.type "range",data:=.fields #[.int lo t,.int hi u,.int 1 v]}).objs.size],_,_,H,rfl,
  j.kept λb o e=>OW _ e,wo _ lo (hi-lo).toNat,?_,λb y=>?_,q}
 ·have e1:lo+((0:Nat):Int)*1=lo:=`s
  have e2:(((hi-lo).toNat:Nat):Int)-((0:Nat):Int)=Builtin.Range.rangeSize lo hi 1:=by rw[rangeSize_one];split<;>omega
  rw[e1,e2];exact Ph _ rfl
 ·have e:b=(s.heap.push {cls:=.type "range",data:=.fields #[.int lo t,.int hi u,.int 1 v]}).objs.size:=by simpa using y
  subst e;exact j.fpOk (OZ _) (j.hok.fresh (OZ _))
def LB (ta:TA):TI:=λσ H R=>ta σ H λy H1=>∃j:Int,y=[.int j]/\-(2^62)<=j/\j<2^62/\R (D8 0 j.toNat) H1
def yZ {ta:TA}{p pos:Pos}(F:Gl X "range")(hm:X.mg "range"=none)(B:PA X [a] ta)(hs:starEach [a] X.env=[(false,eval a X.env)]:=by rfl):PI X tg (.Call (.Name "range" p) [a] [] pos) (LB ta):=by
 intro pins s σ H R I h;refine Call_ (fX I F hm boot_range (Qw (aI (B pos pins s σ H _ I h) λM s1 ⟨O,H1,z,r1,y⟩=>?_) hs rfl));obtain⟨j,e,y,J,q⟩:=y;subst e;cases r1 with
 | cons r L =>
   cases L;obtain⟨t,rfl⟩:=r;exact call_range_1 (Bl z `a `a y J (by simpa using q))
def Nt (wi:TI)(g:TG)(tb:TS):TS:=λD σ H=>wi σ H λJ H1=>∃W:Nat->Nat->St->Hp->Prop,(∃m,W 0 m σ H1)/\∀i m σ H,W i m σ H->
 (J.stop i H/\D.nx σ H)\/(J.go i H/\∃N:St->Hp->Prop,(∀σ' H',N σ' H'->∃m',m'<m/\W (i+1) m' σ' H')/\∀x H',J.yld i H x H'->g x σ H' λσ2 H2=>tb {D with nx:=N,ct:=N,bk:=D.nx} σ2 H2)
noncomputable def ot (j:List Addr)(h:Heap):List (Addr×Obj):=j.filterMap λb=>(h.get? b).map λo=>(b,o)
def ip (j:b∈fp)(e:h.get? b=some o):(b,o)∈ot fp h:=List.mem_filterMap.mpr {b,j,by rw[e];rfl}
def zg (z:p∈ot fp h):p.1∈fp/\h.get? p.1=some p.2:=by
 obtain⟨b,y,e⟩:=List.mem_filterMap.mp z;cases q:h.get? b with
 |none=>rw[q] at e;cases e
 | some o =>
   rw[q] at e;have j:=O2 e;subst j;exact⟨y,q⟩
def Inv.pinned (I:Inv X pins σ H s)(hf:∀b∈y,eR X pins H b)(ho:∀b∈y,∃o,s.heap.get? b=some o/\∀v,o.data≠.cell v):Inv X (pins++ot y s.heap) σ H s:=
 I.pins_of λp L=>(PL.mp L).elim (λz=>I.pin p (PF _ z)) λz=>by
  obtain⟨B,e⟩:=zg z;obtain⟨F,f1,J,_⟩:=hf p.1 B;obtain⟨o,j,d⟩:=ho p.1 B;rw[e] at j;cases j;exact⟨e,F,f1,J,d⟩
def Inv.unpinned (I:Inv X (pins++pl) σ H s):Inv X pins σ H s:=I.pins_of λp j=>I.pin p (PF _ (Qh _ j))
def Ic (hp:PassesOwn (model X.prog X.w) X.A X.env X.xe)(hc:X.calm=true)(hi:PI X tg iter wi)(hg:PG X tg g)(F:j5 X body tb)
 (hs:∀x,foldedSetIterable iter X.env x=pure x:=by intro _;rfl):PS X (.For tg iter body [] pos) (Nt wi g tb):=by
 intro pins s σ H D I h;refine wpAny_For (aI (hi pins s σ H _ I h) λv s1 h1=>aI h1 λitv s2 h2=>?_) hs;obtain⟨it,U,tn,J,H2,e,I2,T,st2,f2,W,⟨m0,w0⟩,turn⟩:=h2;subst e;have L:∀{H':Hp},(∀b∈U,H' b=none)->∀b∈U,eR X pins H' b:=λhn b F=>{hn b F,(f2 b F).2};refine codeAny_forLoop_any (λn s'=>∃i M H',Inv X pins M H' s'/\tn i s'.heap/\(∀b∈U,H' b=none)/\W i n M H') ?_ m0 {0,σ,H2,I2,st2,λb F=>(f2 b F).1,w0};rintro n s3 ⟨i,O,H3,I3,st3,Y,w3⟩;rcases turn i n O H3 w3 with⟨stop,qn⟩|⟨go,N,hN,step⟩
 ·refine wpAny_passesOwn hp (aI (T.done X rfl rfl rfl hc i pins s3 O H3 X.xe I3 (L Y) st3 stop) λr s4 ⟨hr,I4⟩=>?_);subst hr;exact wpAny_execs_nil ⟨O,H3,I4,qn⟩
 ·refine wpAny_passesOwn hp (aI (T.item X rfl rfl rfl hc i pins s3 O H3 X.xe I3 (L Y) st3 go) λr s4 ⟨u,hr,h4⟩=>?_);subst hr;refine wpAny_passesOwn hp (aI h4 λ_ s5 ⟨x,H5,I5,r5,y5,S,fr5⟩=>?_);have I5':=I5.pinned (L fr5) (T.obj _ _ S);refine wpAny_passesOwn hp (aI (hg _ s5 O H5 x u _ I5' r5 (step x H5 y5)) λ_ s6 ⟨σ6,H6,I6,q6⟩=>?_);refine wpAny_passesOwn hp (aI (F _ s6 σ6 H6 _ I6 q6) λf s7 R=>?_);have B:∀{j:St}{y:Hp},Inv X (pins++ot U s5.heap) j y s7->N j y->∃m,m<n/\∃i M H',Inv X pins M H' s7/\tn i s7.heap/\(∀b∈U,H' b=none)/\W i m M H':=λ{j y} z n7=>by
   obtain⟨m',hm,w7⟩:=hN j y n7;refine{m',hm,i+1,j,y,z.unpinned,T.keep _ _ _ S λb F o e=>(z.pin (b,o) (PF _ (PF _ (ip F e)))).1,λb F=>?_,w7};obtain⟨o,e,d⟩:=T.obj _ _ S b F;exact(z.pin (b,o) (PF _ (PF _ (ip F e)))).2.1
  cases f with
  |next=>obtain⟨j,y,z,n7⟩:=R;exact B z n7
  |cont=>obtain⟨j,y,z,n7⟩:=R;exact B z n7
  |brk=>obtain⟨j,y,z,R⟩:=R;exact⟨j,y,z.unpinned,R⟩
  |ret v=>obtain⟨x7,j,y,z,r7,R⟩:=R;exact⟨x7,j,y,z.unpinned,r7,R⟩
end
abbrev R2:=V->V->Hp->VK->Prop
def bz (X:Cx)(f:OX->OX->Sem OX)(r:R2):Prop:=
 ∀(pins:List (Addr×Obj)) (s:O0) (σ:St) (H:Hp) (x y:V) (v u:OX) (Q:VK),Inv X pins σ H s->RelV x v->RelV y u->r x y H Q->
  wpAny (model X.prog X.w) X.A (f v u) (EP X pins σ Q) X.xe s
def Ks (X:Cx)(f:OX->Sem OX)(r:V->Hp->VK->Prop):Prop:=
 ∀(pins:List (Addr×Obj)) (s:O0) (σ:St) (H:Hp) (x:V) (v:OX) (Q:VK),Inv X pins σ H s->RelV x v->r x H Q->
  wpAny (model X.prog X.w) X.A (f v) (EP X pins σ Q) X.xe s
def cu (X:Cx)(f:OX)(r:List V->Hp->VK->Prop):Prop:=
 ∀(pins:List (Addr×Obj)) (s:O0) (σ:St) (H:Hp) (xs:List V) (j:List OX) (Q:VK),Inv X pins σ H s->Vals xs j->r xs H Q->
  wpAny (model X.prog X.w) X.A (call f j) (EP X pins σ Q) X.xe s
def Oz (X:Cx)(r:V->Hp->(Bool->Hp->Prop)->Prop):Prop:=
 ∀(pins:List (Addr×Obj)) (s:O0) (σ:St) (H:Hp) (x:V) (v:OX) (Q:Bool->Hp->Prop),Inv X pins σ H s->RelV x v->r x H Q->
  wpAny (model X.prog X.w) X.A (truthy v) (TP X pins σ Q) X.xe s
def yq (r:R2)(ta tb:TE):TE:=λσ H Q=>ta σ H λx H1=>tb σ H1 λy H2=>r x y H2 Q
def tUn (r:V->Hp->VK->Prop)(ta:TE):TE:=λσ H Q=>ta σ H λx H1=>r x H1 Q
def rI (C:Int->Int->Prop)(g:Int->Int->V):R2:=λx y H Q=>∃i j,x=.int i/\y=.int j/\C i j/\Q (g i j) H
def qI (g:Int->Int->V):R2:=λx y H Q=>∃i j,x=.int i/\y=.int j/\Q (g i j) H
def rU (g:Int->V):V->Hp->VK->Prop:=λx H Q=>∃i,x=.int i/\Q (g i) H
section
variable{X:Cx}{a b c:Expr}{ta tb tc:TE}{pos:Pos}
def Cf (J:PE X a ta)(L:PE X b tb){R:V->V->Hp->Prop}(I:Inv X pins σ H s)
 (h:ta σ H λx H1=>tb σ H1 λy H2=>R x y H2) {f:OX->OX->Sem OX}
 (hf:∀v u s2 x y H2,Inv X pins σ H2 s2->RelV x v->RelV y u->R x y H2->wpAny (model X.prog X.w) X.A (f v u) Q X.xe s2) :
 wpAny (model X.prog X.w) X.A (eval a X.env) (λv j=>wpAny (model X.prog X.w) X.A (eval b X.env) (λu z=>wpAny (model X.prog X.w) X.A (f v u) Q X.xe z) X.xe j) X.xe s:=by
 refine aI (J pins s σ H _ I h) λv s1 ⟨x,H1,B,r1,M⟩=>?_;refine aI (L pins s1 σ H1 _ B M) λu s2 ⟨y,H2,F,r2,O⟩=>?_;exact hf v u s2 x y H2 F r1 r2 O
def Lf {r:R2}(ho:bz X (binaryOp op) r)(z:PE X a ta)(B:PE X b tb):PE X (.BinOp a op b pos) (yq r ta tb):=by
 intro pins s σ H Q I h;exact wpAny_BinOp (Cf z B I h λv u s2 x y H2 j F J q=>ho pins s2 σ H2 x y v u Q j F J q)
def Ld (ho:Ks X (unaryOp op) r)(y:PE X a ta):PE X (.UnaryOp op a pos) (tUn r ta):=by
 intro pins s σ H Q I h;exact UnaryOp_ (aI (y pins s σ H _ I h) λv s1 ⟨x,H1,j,r1,z⟩=>ho pins s1 σ H1 x v Q j r1 z)
def C3 {g:Int->Int->Int}
 (rule:∀(i j:Int) (t u:Tok) (s:O0) (Q:OX->O0->Prop) (E:OX->O0->Prop),C i j->Q (.int (g i j) s.toks) {s with toks:=s.toks+1}->wpAny (model X.prog X.w) X.A (f (.int i t) (.int j u)) Q E s) :
 bz X f (rI C λi j=>.int (g i j)):=by
 intro pins s σ H x y v u Q I B F h;obtain⟨i,j,rfl,rfl,z,q⟩:=h;obtain⟨t,rfl⟩:=B;obtain⟨J,rfl⟩:=F;exact rule i j t J s _ _ z {.int (g i j),H,I.tok _,{_,rfl},q}
def IF {g:Int->Int->Int}
 (rule:∀(i j:Int) (t u:Tok) (s:O0) (Q:OX->O0->Prop) (E:OX->O0->Prop),Q (.int (g i j) s.toks) {s with toks:=s.toks+1}->wpAny (model X.prog X.w) X.A (f (.int i t) (.int j u)) Q E s) :
 bz X f (qI λi j=>.int (g i j)):=by
 intro pins s σ H x y v u Q I z B h;obtain⟨i,j,rfl,rfl,q⟩:=h;obtain⟨t,rfl⟩:=z;obtain⟨F,rfl⟩:=B;exact rule i j t F s _ _ {.int (g i j),H,I.tok _,{_,rfl},q}
def wM {g:Int->Int->Bool}
 (rule:∀(i j:Int) (t u:Tok) (s:O0) (Q:OX->O0->Prop) (E:OX->O0->Prop),Q (.bool (g i j)) s->wpAny (model X.prog X.w) X.A (f (.int i t) (.int j u)) Q E s) :
 bz X f (qI λi j=>.bl (g i j)):=by
 intro pins s σ H x y v u Q I z B h;obtain⟨i,j,rfl,rfl,q⟩:=h;obtain⟨t,rfl⟩:=z;obtain⟨F,rfl⟩:=B;exact rule i j t F s _ _ {.bl (g i j),H,I,rfl,q}
def KC (i j:Int):Prop:=0<j/\j<1073741824
def KA (i j:Int):Prop:=0<=j/\j<=1000000/\i.natAbs<2^64
def Cp (i j:Int):Prop:=(-(2^64)<i/\i<2^64)\/(-(2^64)<j/\j<2^64)
def Cp.ok {i j:Int}(h:Cp i j):IntMulOk i j:=by
 rcases h with⟨h1,h2⟩|⟨h1,h2⟩
 ·exact .of_left (intBits_le_64 h1 h2)
 ·exact .of_right (intBits_le_64 h1 h2)
def IE:bz X (binaryOp .Add) (qI λi j=>.int (i+j)):=IF λ_ _ _ _ _ _ _ q=>add_int q
def Iv:bz X (binaryOp .Sub) (qI λi j=>.int (i-j)):=IF λ_ _ _ _ _ _ _ q=>sub_int q
def Iz:bz X (binaryOp .Mult) (rI Cp λi j=>.int (i*j)):=C3 λ_ _ _ _ _ _ _ y q=>mul_int q y.ok
def Fz:bz X (binaryOp .FloorDiv) (rI KC λi j=>.int (i / j)):=C3 λi j _ _ _ _ _ y q=>by
 have h1:=y.1;have h2:=y.2;exact floordiv_int `a (by rw[Int.fdiv_eq_ediv_of_nonneg i `a];exact q) (.inl (PyProof.noPylong_small `a))
def IB:bz X (binaryOp .Mod) (rI (λ_ j=>0<j) λi j=>.int (i % j)):=C3 λi j _ _ _ _ _ y q=>by
 have h1:=y;exact mod_int' `a (by rw[Int.fmod_eq_emod_of_nonneg i `a];exact q)
def Iy:bz X (binaryOp .Pow) (rI KA λi j=>.int (i^j.toNat)):=C3 λ_ _ _ _ _ _ _ y q=>pow_int_small y.1 y.2.1 y.2.2 q
def unI {g:Int->Int}
 (rule:∀(i:Int) (t:Tok) (s:O0) (Q:OX->O0->Prop) (E:OX->O0->Prop),Q (.int (g i) s.toks) {s with toks:=s.toks+1}->wpAny (model X.prog X.w) X.A (f (.int i t)) Q E s) :
 Ks X f (rU λi=>.int (g i)):=by
 intro pins s σ H x v Q I j h;obtain⟨i,rfl,q⟩:=h;obtain⟨t,rfl⟩:=j;exact rule i t s _ _ {.int (g i),H,I.tok _,{_,rfl},q}
def G5:Ks X (unaryOp .USub) (rU λi=>.int (-i)):=unI λ_ _ _ _ _ q=>neg_int q
end
noncomputable def Hy:V->V->Bool
 |.non,.non=>true|.non,.int _=>true|.int _,.non=>true|.non,.bl _=>true|.bl _,.non=>true|.non,.str _=>true|.str _,.non=>true
 |.int _,.int _=>true|.bl _,.bl _=>true|.str _,.str _=>true|.byt _,.byt _=>true
 |.int _,.str _=>true|.str _,.int _=>true|.bl _,.str _=>true|.str _,.bl _=>true
 |_,_=>false
def rEq:R2:=λx y H Q=>Hy x y=true/\Q (.bl (decide (x=y))) H
def rNe:R2:=λx y H Q=>Hy x y=true/\Q (.bl (!decide (x=y))) H
def vY {i j:Int}:decide (V.int i=V.int j)=(i==j):=by
 rw[Qs];simp
def zT:decide (V.bl i=V.bl j)=(i==j):=by
 rw[Qs];simp
def mL:decide (V.str i=V.str j)=(i==j):=by
 rw[Qs];simp
def vZ:decide (V.byt i=V.byt j)=(i.toList==j.toList):=by
 rw[Qs];cases i;cases j;simp
section
variable{X:Cx}{a b c:Expr}{ta tb tc:TE}{pos:Pos}
def bj (I:Inv X pins σ H s)(q:Q (.bl k) H)(e:k=k'):EP X pins σ Q (.bool k') s:=by
 subst e;exact{.bl k,H,I,rfl,q}
def Lp:bz X (compareOp .Eq) rEq:=by
 intro pins s σ H x y v u Q I F z h;obtain⟨hs,q⟩:=h;cases x with
 | non =>
   cases F;cases y with
   |non=>cases z;exact PySem.EqNone.eq_none_none (bj I q `s)
   |bl j=>cases z;exact PySem.EqNone.eq_none_bool (bj I q `s)
   |int j=>obtain⟨B,rfl⟩:=z;exact PySem.EqNone.eq_none_int (bj I q `s)
   |str j=>obtain⟨B,rfl⟩:=z;exact PySem.EqNone.eq_none_str (bj I q `s)
   |_=>exact absurd (hs) Pq
 | bl i =>
   cases F;cases y with
   |non=>cases z;exact PySem.EqNone.eq_bool_none (bj I q `s)
   |bl j=>cases z;exact eq_bool (bj I q zT)
   |str j=>obtain⟨B,rfl⟩:=z;exact PySem.EqMixed.eq_bool_str (bj I q `s)
   |_=>exact absurd (hs) Pq
 | int i =>
   obtain⟨t,rfl⟩:=F;cases y with
   |non=>cases z;exact PySem.EqNone.eq_int_none (bj I q `s)
   |int j=>obtain⟨B,rfl⟩:=z;exact eq_int (bj I q vY)
   |str j=>obtain⟨B,rfl⟩:=z;exact PySem.EqMixed.eq_int_str (bj I q `s)
   |_=>exact absurd (hs) Pq
 | str i =>
   obtain⟨t,rfl⟩:=F;cases y with
   |non=>cases z;exact PySem.EqNone.eq_str_none (bj I q `s)
   |bl j=>cases z;exact PySem.EqMixed.eq_str_bool (bj I q `s)
   |int j=>obtain⟨B,rfl⟩:=z;exact PySem.EqMixed.eq_str_int (bj I q `s)
   |str j=>obtain⟨B,rfl⟩:=z;exact eq_str (bj I q mL)
   |_=>exact absurd (hs) Pq
 | byt i =>
   obtain⟨t,rfl⟩:=F;cases y with
   |byt j=>obtain⟨B,rfl⟩:=z;exact PySem.W.eq_bytes (bj I q vZ)
   |_=>exact absurd (hs) Pq
 |_=>cases y<;>exact absurd (hs) Pq
def Lk:bz X (compareOp .NotEq) rNe:=by
 intro pins s σ H x y v u Q I F z h;obtain⟨hs,q⟩:=h;cases x with
 | non =>
   cases F;cases y with
   |non=>cases z;exact PySem.EqNone.ne_none_none (bj I q `s)
   |bl j=>cases z;exact PySem.EqNone.ne_none_bool (bj I q `s)
   |int j=>obtain⟨B,rfl⟩:=z;exact PySem.EqNone.ne_none_int (bj I q `s)
   |str j=>obtain⟨B,rfl⟩:=z;exact PySem.EqNone.ne_none_str (bj I q `s)
   |_=>exact absurd (hs) Pq
 | bl i =>
   cases F;cases y with
   |non=>cases z;exact PySem.EqNone.ne_bool_none (bj I q `s)
   |bl j=>cases z;exact ne_bool (bj I q (congrArg not zT))
   |str j=>obtain⟨B,rfl⟩:=z;exact PySem.EqMixed.ne_bool_str (bj I q `s)
   |_=>exact absurd (hs) Pq
 | int i =>
   obtain⟨t,rfl⟩:=F;cases y with
   |non=>cases z;exact PySem.EqNone.ne_int_none (bj I q `s)
   |int j=>obtain⟨B,rfl⟩:=z;exact ne_int (bj I q (congrArg not vY))
   |str j=>obtain⟨B,rfl⟩:=z;exact PySem.EqMixed.ne_int_str (bj I q `s)
   |_=>exact absurd (hs) Pq
 | str i =>
   obtain⟨t,rfl⟩:=F;cases y with
   |non=>cases z;exact PySem.EqNone.ne_str_none (bj I q `s)
   |bl j=>cases z;exact PySem.EqMixed.ne_str_bool (bj I q `s)
   |int j=>obtain⟨B,rfl⟩:=z;exact PySem.EqMixed.ne_str_int (bj I q `s)
   |str j=>obtain⟨B,rfl⟩:=z;exact ne_str (bj I q (congrArg not mL))
   |_=>exact absurd (hs) Pq
 | byt i =>
   obtain⟨t,rfl⟩:=F;cases y with
   |byt j=>obtain⟨B,rfl⟩:=z;exact PySem.W.ne_bytes (bj I q (congrArg not vZ))
   |_=>exact absurd (hs) Pq
 |_=>cases y<;>exact absurd (hs) Pq
def Ll:bz X (compareOp .Lt) (qI λi j=>.bl (decide (i<j))):=wM λ_ _ _ _ _ _ _ q=>lt_int q
def Lm:bz X (compareOp .LtE) (qI λi j=>.bl (decide (i<=j))):=wM λ_ _ _ _ _ _ _ q=>le_int q
def Ln:bz X (compareOp .Gt) (qI λi j=>.bl (decide (j<i))):=wM λ_ _ _ _ _ _ _ q=>gt_int q
def Lo:bz X (compareOp .GtE) (qI λi j=>.bl (decide (j<=i))):=wM λ_ _ _ _ _ _ _ q=>ge_int q
def ze:bz X (compareOp .In) (λx y H Q=>∃i j,x=.str i/\y=.str j/\Q (.bl (!(Builtin.Str.occurrences j i 0 j.length 1).isEmpty)) H):=by
 intro pins s σ H x y v u Q I z B h;obtain⟨i,j,rfl,rfl,q⟩:=h;obtain⟨t,rfl⟩:=z;obtain⟨F,rfl⟩:=B;exact in_str (bj I q rfl)
def IC:bz X (compareOp .Is) (λx y H Q=>y=.non/\Q (.bl (decide (x=.non))) H):=by
 intro pins s σ H x y v u Q I j z h;obtain⟨rfl,q⟩:=h;cases z;refine is_none_gen (bj I q ?_);cases x<;>first
  |(cases j;rfl)
  |(obtain⟨t,rfl⟩:=j;rfl)
def Fy:bz X (compareOp .IsNot) (λx y H Q=>y=.non/\Q (.bl (!decide (x=.non))) H):=by
 intro pins s σ H x y v u Q I j z h;obtain⟨rfl,q⟩:=h;cases z;refine isnot_none_gen (bj I q ?_);cases x<;>first
  |(cases j;rfl)
  |(obtain⟨t,rfl⟩:=j;rfl)
def sX:bz X (compareOp .NotIn) (λx y H Q=>∃i j,x=.str i/\y=.str j/\Q (.bl (!(!(Builtin.Str.occurrences j i 0 j.length 1).isEmpty))) H):=by
 intro pins s σ H x y v u Q I z B h;obtain⟨i,j,rfl,rfl,q⟩:=h;obtain⟨t,rfl⟩:=z;obtain⟨F,rfl⟩:=B;exact notIn_str (bj I q rfl)
def pR {r:R2}(ho:bz X (compareOp op) r)(z:PE X a ta)(B:PE X b tb)(hm:behindInMarks op b=false):PE X (.Compare a [op] [b] pos) (yq r ta tb):=by
 intro pins s σ H Q I h;exact wpAny_Compare1 (Cf z B I h λv u s2 x y H2 j F J q=>ho pins s2 σ H2 x y v u Q j F J q) hm
def CQ (t:TE):TT:=λσ H Q=>t σ H λx H'=>∃k,x=.bl k/\Q k H'
def pO (ho:bz X (compareOp op) r)(L:PE X a ta)(M:PE X b tb)(hm:behindInMarks op b=false):PT X (.Compare a [op] [b] pos) (CQ (yq r ta tb)):=by
 intro pins s σ H Q I h;refine wpAny_isTrue_Compare1 (aI (L pins s σ H _ I h) λv s1 ⟨x,H1,B,r1,O⟩=>aI (M pins s1 σ H1 _ B O) λu s2 ⟨y,H2,F,r2,R⟩=>
  aI (ho pins s2 σ H2 x y v u _ F r1 r2 R) λc W ⟨z,j,J,U,k,e,S⟩=>?_) hm
 subst e;cases U;exact tqp ⟨j,J,S⟩
def sk (r r':R2)(ta tb tc:TE):TE:=λσ H Q=>ta σ H λx H1=>tb σ H1 λy H2=>r x y H2 λz j=>∃k,z=.bl k/\
 (if k=true then tc σ j λF B=>r' y F B Q else Q (.bl false) j)
def Bt (ho:bz X (compareOp op) r)(j:bz X (compareOp op') r')(S:PE X a ta)(U:PE X b tb)(W:PE X c tc)
 (hm:lastMarks [op,op'] [b,c]=false:=by with_unfolding_all rfl):PE X (.Compare a [op,op'] [b,c] pos) (sk r r' ta tb tc):=by
 intro pins s σ H Q I h;refine Compare_chain (aI (S pins s σ H _ I h) λv s1 ⟨x,H1,M,r1,Y⟩=>chain_link (aI (U pins s1 σ H1 _ M Y) λu s2 ⟨y,H2,O,r2,q2⟩=>
  aI (ho pins s2 σ H2 x y v u _ O r1 r2 q2) λd s3 ⟨z,B,F,r3,k,e,J⟩=>?_)) hm
 subst e;cases r3;refine tqp ?_;cases k with
 |false=>exact ite_ff {.bl false,B,F,rfl,J}
 |true=>exact ite_tt (chain_last (aI (W pins s3 σ B _ F J) λw' s4 ⟨z',L,R,r4,q4⟩=>j pins s4 σ L y z' u w' Q R r2 r4 q4))
def Bn (ho:bz X (compareOp op) r)(j:bz X (compareOp op') r')(Y:PE X a ta)(hb:PE X b tb)(hc:PE X c tc)
 (hm:lastMarks [op,op'] [b,c]=false:=by with_unfolding_all rfl):PT X (.Compare a [op,op'] [b,c] pos) (CQ (sk r r' ta tb tc)):=by
 intro pins s σ H Q I h;refine isTrue_chain (aI (Y pins s σ H _ I h) λv s1 ⟨x,H1,O,r1,q1⟩=>test_link (aI (hb pins s1 σ H1 _ O q1) λu s2 ⟨y,H2,R,r2,q2⟩=>
  aI (ho pins s2 σ H2 x y v u _ R r1 r2 q2) λd s3 ⟨z,B,F,r3,k,e,J⟩=>?_)) hm
 subst e;cases r3;refine tqp ?_;cases k with
 | false =>
   obtain⟨k',W,q'⟩:=J;cases W;exact ite_ff ⟨B,F,q'⟩
 | true =>
   refine ite_tt (test_last (aI (hc pins s3 σ B _ F J) λw' s4 ⟨z',L,S,r4,q4⟩=>aI (j pins s4 σ L y z' u w' _ S r2 r4 q4) λd' s5 ⟨z2,M,U,r5,k2,e2,q5⟩=>?_));subst e2;cases r5;exact tqp ⟨M,U,q5⟩
def Cj (K:OU)(x:V)(H:Hp)(k:Bool):Prop:=
 match x with
 |.non=>k=false
 |.bl b=>k=b
 |.int i=>k=(i != 0)
 |.str y=>y.length<=sizeLine/\k=((y.length:Int) != 0)
 |.byt y=>y.size<=sizeLine/\k=((y.size:Int) != 0)
 |.ref p=>(∃xs,c9 K H p xs/\k=!xs.isEmpty)\/(∃xs,dD K H p xs/\k=!xs.isEmpty)\/∃kvs,H p=some (.dK kvs)/\k=!kvs.isEmpty
 |_=>False
def xa {κ:Type}{kvs:List (κ×V)}{vs:List (κ×OX)}(r:KV kvs vs):(!vs.isEmpty)=!kvs.isEmpty:=by
 cases r<;>rfl
def kC {xs:List V}{its:List OX}(r:Vals xs its):(!its.toArray.isEmpty)=!xs.isEmpty:=by
 cases r<;>simp
def iZ:(sizeLine:Nat)<2^63:=by rw[sizeLine_eq];decide
def Hk:Oz X (λx H Q=>∃k,Cj X.K x H k/\Q k H):=by
 intro pins s σ H x v Q I rx h;obtain⟨k,e,q⟩:=h;have hl:=iZ;have hs:=sizeLine_eq;cases x with
 | non =>
   cases rx;have e':=e;subst e';exact truthy_none ⟨H,I,q⟩
 | bl b =>
   cases rx;have e':=e;subst e';exact tqp ⟨H,I,q⟩
 | int i =>
   obtain⟨t,rfl⟩:=rx;have e':=e;subst e';exact PySem.P.truthy_int ⟨H,I,q⟩
 | str y =>
   obtain⟨t,rfl⟩:=rx;obtain⟨hy,e'⟩:y.length<=sizeLine/\k=((y.length:Int) != 0):=e;subst e';exact PySem.P.truthy_str `a {H,I.tok _,q}
 | byt y =>
   obtain⟨t,rfl⟩:=rx;obtain⟨hy,e'⟩:y.size<=sizeLine/\k=((y.size:Int) != 0):=e;subst e';exact PySem.W.truthy_bytes `a {H,I.tok _,q}
 | ref p =>
   cases rx;have e':=e;rcases e' with⟨xs,hx,e'⟩|⟨xs,hx,e'⟩|⟨kvs,hx,e'⟩
   ·subst e';obtain⟨its,r,pl,hz⟩:=I.list hx;have hlen:=r.length;exact wpAny_truthy_list pl.isList (by simp only[O7];omega) {H,I.tok _,by rw[kC r];exact q}
   ·subst e';obtain⟨its,r,pl,hz⟩:=I.tuple hx;have hlen:=r.length;exact truthy_tuple pl (by simp only[O7];omega) {H,I.tok _,by rw[kC r];exact q}
   ·subst e';obtain⟨hz,hS,vs,r,m⟩:kvs.length<=sizeLine/\(p==sysModules)=false/\∃vs,KV kvs vs/\s.heap.DictOf (jT X.prog X.w) p vs:=I.hok p _ hx;have hlen:=Paired.length r;exact wpAny_truthy_dict hS m `a {H,I.tok _,by rw[xa r];exact q}
 |_=>exact(e).elim
def Bm (y:PE X a ta)(he:∀whole,isTrue a X.env whole=(do let v <- whole;standAt a.pos;holding [v] (truthy v))) :
 PT X a (λσ H Q=>ta σ H λx H'=>∃k,Cj X.K x H' k/\Q k H'):=by
 intro pins s σ H Q I h;exact isTrue_plain (aI (y pins s σ H _ I h) λv s1 ⟨x,H1,j,r1,z⟩=>Hk pins s1 σ H1 x v Q j r1 z) (he _)
def wL:bz X (binaryOp .Add) (λx y H Q=>∃i j,x=.str i/\y=.str j/\i.length+j.length<=sizeLine/\Q (.str (i++j)) H):=by
 intro pins s σ H x y v u Q I B F h;obtain⟨i,j,rfl,rfl,z,q⟩:=h;obtain⟨t,rfl⟩:=B;obtain⟨J,rfl⟩:=F;exact add_str (λJ tk=>{.str (i++j),H,I.tok _,{_,rfl},q}) z
def vals1 (r:Vals [x] us):∃u,us=[u]/\RelV x u:=by
 cases r with
 |cons r1 r2=>cases r2;exact{_,rfl,r1}
def vals2 (r:Vals [x,y] us):∃u j,us=[u,j]/\RelV x u/\RelV y j:=by
 cases r with
 | cons r1 r2 =>
   cases r2 with
   |cons z B=>cases B;exact{_,_,rfl,r1,z}
end
structure n4 (h:Heap) (x dx C:Addr) (mA:Str->Option OX):Prop where
 obj:h.get? x=some (PySem.W.instObj C dx)
 ns:h.Ns1 dx mA
 ne:dx≠x
set_option tactic.hygienic true in
def zw {h:Heap}(n:h.Ns1 dx mA):∃od,h.get? dx=some od/\∀name,PySem.W.lookIn name od=some (mA name):=by
 obtain⟨o,es,I,ho,hd,hk,_,hm⟩:=n;refine{o,ho,λname=>?_};have e:=hm name;unfold nsFind findBy at e;rw[<- Array.find?_toList] at e;unfold PySem.W.lookIn;rw[hd];dsimp only;split
 ·rename_i y q;rw[q] at e;exact congrArg some e
 ·rename_i q;rw[q] at e;have a:es.toList.any (·.refKey)=false:=by
   rw[List.any_eq_false];intro y F;obtain⟨z,t,j⟩:=hk y (Array.mem_toList_iff.mp F);simp[DictEntry.refKey,j]
  have B:¬ es.toList.any (·.refKey)=true:=by rw[a];exact Pq
  rw[if_neg B];exact congrArg some e
def n4.look (I:n4 h x dx C mA):∃od,PySem.W.InstAt h x (PySem.W.instObj C dx) C (some od)/\∀name,PySem.W.lookIn name od=some (mA name):=
 let⟨od,ho,hl⟩:=zw I.ns
 {od,⟨I.obj,rfl,rfl,ho⟩,hl}
section
variable{prog:PH}{w:PC}{A:Qx}{E:OX->O0->Prop}{s:O0}{K:OU}{x dx C f:Addr}{mA:Str->Option OX}{name:Str}{v:OX}
def get_map (X:K.In s.heap)(I:n4 s.heap x dx C mA)(z:PySem.W.plainGet K C name=true)(hh:PySem.W.hasDictIn K C=true)
 (y:PySem.W.findIn K (.ref C) name=some none) (B:mA name=some v) (j:PySem.W.handedIn v=true) (h:Q v {s with toks:=s.toks+1}) :
 wpAny (model prog w) A (getAttr (.ref x) name expr) Q E s:=by
 obtain⟨od,J,hl⟩:=I.look;exact PySem.W.get_value X J (PySem.W.plainGet_of z).1 (PySem.W.findObj_own hh y rfl (by rw[hl,B])) j h
def BX (X:K.In s.heap)(I:n4 s.heap x dx C mA)(j:PySem.W.plainGet K C name=true)
 (hf:PySem.W.findIn K (.ref C) name=some (some (.ref f))) (y:PySem.W.isFn K (.ref f)=true) (z:mA name=none) (h:Q (.ref f,[.ref x]) s) :
 wpAny (model prog w) A (getMethod (.ref x) name pl) Q E s:=by
 obtain⟨od,J,hl⟩:=I.look;exact PySem.W.method_fn X J (PySem.W.plainGet_of j).1 (PySem.W.plainGet_of j).2 hf (beq_iff_eq.mp y) (by show(PySem.W.lookIn name od).map (·.isSome)=some false;rw[hl,z];rfl) h
def E4 (X:K.In s.heap)(I:n4 s.heap x dx C mA)
 (hs:PySem.W.findIn K (.ref C) "__setattr__"=some (some (.builtin "object.__setattr__"))) (U:PySem.W.plainOver K C=true) (Y:PySem.W.takerIn K C name=some none) (hh:PySem.W.hasDictIn K C=true)
 (hw:PySem.Within mA ns) (hsz:ns.length<=sizeLine)
 (h:∀h',n4 h' x dx C (λy=>if y=name then some v else mA y)->QE dx s.heap h'->Q () {s with heap:=h',toks:=s.toks+2}) :
 wpAny (model prog w) A (setAttr (.ref x) name v) Q E s:=by
 obtain⟨od,J,hl⟩:=I.look;refine PySem.W.set_plain X J hs (PySem.W.osa_open X J U Y λb=>?_);obtain⟨cd,S,F⟩:=PySem.W.any_some hh;have hx:=I.obj;refine tqa (tqb (tqa (tqa (wpAny_loadPart hx (tqa (PySem.W.Looks.here (PySem.W.looks_clsIn X S) ?_))))));rw[F];refine tqb (tqa (tqb (tqa ?_)));refine wpAny_nsSet1 I.ns λh' j z=>?_;obtain⟨oD,R,O,M,L,B⟩:=j.count (PySem.Within.cons name v hw);refine tqa (wpAny_lookBehind M (by rw[L];exact pastItsLine_dict (Pa B (by rw[PD];omega))) ?_)
 exact tqb (h _ {(z.2 _ (Qk I.ne)).trans I.obj,j,I.ne} z)
def BB (X:K.In s.heap)(hm:PySem.W.makesIn K C=true)
 (hi:PySem.W.findIn K (.ref C) "__init__"=some (some (.ref f))) (hf:PySem.W.typeIn K (.ref f)=some (.type "function"))
 (h:codeAny (model prog w) (A.under (.builtin "type.__call__" {.ref C::vs,kw})) (.call (.ref f) {.ref (s.heap.objs.size+1)::vs,kw}) (PySem.W.InitBack (s.heap.objs.size+1) R)
  {s with heap:=(s.heap.push PySem.W.emptyDict).push (PySem.W.instObj C s.heap.objs.size)}) :
 codeAny (model prog w) A (.call (.ref C) ⟨vs,kw⟩) R s:=by
 obtain⟨j,g,d,t,os⟩:=s;exact PySem.W.make_core (PySem.W.makes_of X hm) (PySem.W.looks_findIn X hi) (λself=>PySem.W.bind_fn X self hf) (.inl rfl) h
end
noncomputable def cT (f:Str)(v:V):List (Str×V)->List (Str×V)
 |[]=>[(f,v)]
 |(g,x)::r=>if g=f then(g,v)::r else(g,x)::cT f v r
def mX (f g:Str)(v:V):∀fs:List (Str×V),(cT f v fs).lookup g=if g=f then some v else fs.lookup g
 | [] => by
   show List.lookup g [(f,v)]=_;by_cases h:g=f
   ·have j:=beq_iff_eq.mpr h;simp only[List.lookup,j,if_pos h]
   ·have j:=Qf.mpr h;simp only[List.lookup,j,if_neg h]
 | (k, x) :: r => by
   have y:=mX f g v r;rw[show cT f v ((k,x)::r)=(if k=f then(k,v)::r else(k,x)::cT f v r) from rfl];by_cases hk:k=f
   ·rw[if_pos hk];by_cases h:g=k
    ·have j:=beq_iff_eq.mpr h;simp only[List.lookup,j,if_pos (h.trans hk)]
    ·have j:=Qf.mpr h;simp only[List.lookup,j,if_neg (λe:g=f=>h (e.trans hk.symm))]
   ·rw[if_neg hk];by_cases h:g=k
    ·have j:=beq_iff_eq.mpr h;simp only[List.lookup,j,if_neg (λe:g=f=>hk (h.symm.trans e))]
    ·have j:=Qf.mpr h;simp only[List.lookup,j];exact y
def lN (f:Str)(v:V):∀fs:List (Str×V),f∈(cT f v fs).map (·.1)/\∀g,g∈fs.map (·.1)->g∈(cT f v fs).map (·.1)
 |[]=>{by simp[cT],λg h=>by simp at h}
 | (k, x) :: r => by
   obtain⟨j,y⟩:=lN f v r;rw[show cT f v ((k,x)::r)=(if k=f then(k,v)::r else(k,x)::cT f v r) from rfl];by_cases hk:k=f
   ·rw[if_pos hk];subst hk;exact{`s,λg h=>by simpa using h}
   ·rw[if_neg hk];refine{?_,λg h=>?_}
    ·rw[PV];exact O6 _ j
    ·rw[PV] at h ⊢;rcases PJ.mp h with e|e
     ·exact List.mem_cons.mpr (.inl e)
     ·exact O6 _ (y g e)
def mY (f:Str)(v:V):∀fs:List (Str×V),(cT f v fs).length<=fs.length+1
 |[]=>by simp[cT]
 | (k, x) :: r => by
   have j:=mY f v r;rw[show cT f v ((k,x)::r)=(if k=f then(k,v)::r else(k,x)::cT f v r) from rfl];by_cases hk:k=f
   ·rw[if_pos hk,PD,PD];omega
   ·rw[if_neg hk,PD,PD];omega
def jJ.some_of (r:jJ (some v) o):∃u,o=some u/\RelV v u:=by
 cases o with
 |none=>exact(r).elim
 |some u=>exact⟨u,rfl,r⟩
def jJ.none_of (r:jJ none o):o=none:=by
 cases o with
 |none=>rfl
 |some u=>exact(r).elim
def zO (r:RelV v u):PySem.W.handedIn u=true:=by
 cases v with
 |non=>cases (r);rfl
 |bl b=>cases (r);rfl
 |int i=>obtain⟨t,e⟩:=(r);cases e;rfl
 |str x=>obtain⟨t,e⟩:=(r);cases e;rfl
 |byt b=>obtain⟨t,e⟩:=(r);cases e;rfl
 |flt b=>obtain⟨t,e⟩:=(r);cases e;rfl
 |ref a=>cases (r);rfl
 |ty n=>cases (r);rfl
section
variable{P:PH}{w:PC}{H H':Hp}{h h':Heap}{a C dx:Addr}{fs fs':List (Str×V)}
def mH (hok:dX P w H h)(e:H a=some (.ins C dx fs)):∃mA,n4 h a dx C mA/\(∀f,jJ (fs.lookup f) (mA f))/\PySem.Within mA (fs.map (·.1))/\fs.length<=1000/\H dx=some (.own a):=by
 obtain⟨d,z,ne,ob,mA,n,r,q⟩:=(hok a _ e);exact{mA,⟨ob,n,ne⟩,r,q,z,d}
end
structure jf (K:OU) (C:Addr):Prop where
 pg:PySem.W.plainGet K C Str.empty=true
 hd:PySem.W.hasDictIn K C=true
 po:PySem.W.plainOver K C=true
 sa:PySem.W.findIn K (.ref C) "__setattr__"=some (some (.builtin "object.__setattr__"))
def jf.get {K:OU}(c:jf K C)(f:Str):PySem.W.plainGet K C f=true:=c.pg
def jd (K:OU)(C:Addr)(f:Str):Prop:=PySem.W.findIn K (.ref C) f=some none
def jd.taker {K:OU}(n:jd K C f):PySem.W.takerIn K C f=some none:=by
 unfold PySem.W.takerIn;rw[show PySem.W.findIn K (.ref C) f=some none from n];rfl
structure Meth (K:OU) (C:Addr) (m:Str) (f:Addr):Prop where
 at_:PySem.W.findIn K (.ref C) m=some (some (.ref f))
 fn:PySem.W.isFn K (.ref f)=true
 kp:PySem.W.keepIn K (.ref f)=true
section
variable{X:Cx}{pins:List (Addr×Obj)}{σ:St}{H:Hp}{s:O0}{a C dx:Addr}{fs:List (Str×V)}{f:Str}{v:V}{A:Qx}{E:OX->O0->Prop}
def xg (I:Inv X pins σ H s)(e:H a=some (.ins C dx fs))(c:jf X.K C)(n:jd X.K C f)(l:fs.lookup f=some v)
 (h:∀u s',Inv X pins σ H s'->RelV v u->Q u s'):wpAny (model X.prog X.w) A (getAttr (.ref a) f b) Q E s:=by
 obtain⟨mA,O,r,_,_,_⟩:=mH I.hok e;obtain⟨u,y,j⟩:=jJ.some_of (by rw[<- l];exact r f)
 exact get_map I.kIn O (c.get f) c.hd n y (zO j) (h u _ (I.tok _) j)
def oK (I:Inv X pins σ H s)(e:H a=some (.ins C dx fs))(c:jf X.K C)(k:Meth X.K C m g)(l:fs.lookup m=none)
 (h:Q (.ref g,[.ref a]) s):wpAny (model X.prog X.w) A (getMethod (.ref a) m pl) Q E s:=by
 obtain⟨mA,O,r,_,_,_⟩:=mH I.hok e;have hn:=jJ.none_of (by rw[<- l];exact r m)
 exact BX I.kIn O (c.get m) k.at_ k.fn hn h
def wD (I:Inv X pins σ H s)(e:H a=some (.ins C dx fs))(c:jf X.K C)(n:jd X.K C f)(hl:fs.length<1000)(R:RelV y u)
 (h:∀s',Inv X pins σ (upd H a (.ins C dx (cT f y fs))) s'->Q () s'):wpAny (model X.prog X.w) A (setAttr (.ref a) f u) Q E s:=by
 obtain⟨mA,O,r,B,_,ho⟩:=mH I.hok e;have M:(fs.map (·.1)).length<=sizeLine:=by rw[OY,sizeLine_eq];omega
 refine E4 I.kIn O c.sa c.po n.taker c.hd B M λh' j S=>h _ ?_;have hd:∃o,h'.get? dx=some o:=let{o,_,_,F,_}:=j.ns;⟨o,F⟩
 refine I.write (by rw[e];exact True.intro) (.inr ho) (λb q J z=>(S.2 b J).trans z) hd ?_
 refine{by rw[ao O.ne];exact ho,?_,O.ne,j.obj,_,j.ns,λg=>?_,λg L=>?_}
 ·have:=mY f y fs;omega
 ·show jJ ((cT f y fs).lookup g) (if g=f then some u else mA g);rw[mX];by_cases q:g=f
  ·rw[if_pos q,if_pos q];exact R
  ·rw[if_neg q,if_neg q];exact r g
 ·by_cases q:g=f
  ·rw[q];exact(lN f y fs).1
  ·refine(lN f y fs).2 g (B g λz=>L ?_);show(if g=f then some u else mA g)=none;rw[if_neg q];exact z
def Inv.made (I:Inv X pins σ H s):Inv X pins σ (upd (upd H s.heap.objs.size (.own (s.heap.objs.size+1))) (s.heap.objs.size+1) (.ins C s.heap.objs.size []))
 {s with heap:=(s.heap.push PySem.W.emptyDict).push (PySem.W.instObj C s.heap.objs.size)}:=by
 have e1:(s.heap.push PySem.W.emptyDict).get? s.heap.objs.size=some PySem.W.emptyDict:=Ph s.heap rfl;have e2:((s.heap.push PySem.W.emptyDict).push (PySem.W.instObj C s.heap.objs.size)).get? (s.heap.objs.size+1)=some (PySem.W.instObj C s.heap.objs.size):=by
  have:=Ph (s.heap.push PySem.W.emptyDict) (o:=PySem.W.instObj C s.heap.objs.size) rfl
  rwa [Qt] at this
 have z:(s.heap.push PySem.W.emptyDict).Ns s.heap.objs.size (λ_=>none):={PySem.W.emptyDict,#[],_,e1,rfl,(λe he=>absurd he `s),λ_=>rfl}
 have j:=I.laid (o:=.own (s.heap.objs.size+1)) (t':=s.toks) (λb u q=>OW _ q) (OZ _) {_,e1};refine j.laid (λb u q=>OW _ q) (Nat.le_of_eq (Qt _ _)) ?_;have ne:s.heap.objs.size≠s.heap.objs.size+1:=Pu (Nat.lt_succ_self _);refine{by rw[ao ne,bH],QO _,ne,e2,λ_=>none,(Heap.Ns1.of_empty z).at λo q=>OW _ q,λ_=>True.intro,λy B=>absurd rfl B}
def GD (y:attributeBase e f env (eval e env)=eval e env)
 (h:wpAny (model prog w) A (eval e env) (λo j=>wpAny (model prog w) A (getAttr o f true) Q E j) E s):wpAny (model prog w) A (eval (.Attribute e f pos) env) Q E s:=
 Attribute_any_ h (by rw[arm_eval_Attribute,y])
end
def Nu (K:OU)(ta:TE)(f:Str):TE:=λσ H Q=>ta σ H λx H1=>∃a C dx fs v,x=.ref a/\H1 a=some (.ins C dx fs)/\jf K C/\jd K C f/\fs.lookup f=some v/\Q v H1
def Ny (K:OU)(ta tv:TE)(f:Str):TS:=λD σ H=>tv σ H λy H1=>ta σ H1 λx H2=>∃a C dx fs,x=.ref a/\H2 a=some (.ins C dx fs)/\jf K C/\jd K C f/\fs.length<1000/\
 D.nx σ (upd H2 a (.ins C dx (cT f y fs)))
section
variable{X:Cx}{o e value:Expr}{f:Str}{pos pos' tpos:Pos}{ta tv:TE}
def Iq (he:PE X e ta)(B:attributeBase e f X.env (eval e X.env)=eval e X.env):PE X (.Attribute e f pos) (Nu X.K ta f):=by
 intro pins s σ H Q I h;refine GD B (aI (he pins s σ H _ I h) λu s1 ⟨x,H1,j,J,a,C,dx,fs,v,ex,z,c,n,l,q⟩=>?_);subst ex;obtain rfl:u=Value.ref a:=J;exact xg j z c n l λL s2 y F=>⟨v,H1,y,F,q⟩
def Ie (J:PE X o ta)(L:PE X value tv)(hs:swapsWith value (some (.Attribute o f pos')) pos.line X.env=pure false):PS X (.Assign [.Attribute o f pos'] value pos) (Ny X.K ta tv f):=by
 intro pins s σ H D I h;refine plainObj_wpAny_Assign_Attribute (aI (L pins s σ H _ I h) λu s1 ⟨y,H1,j,S,q⟩=>aI (J pins s1 σ H1 _ j q) λM s2 ⟨x,H2,z,R,a,C,dx,fs,ex,F,c,n,l,O⟩=>?_) hs;subst ex;obtain rfl:M=Value.ref a:=R;exact wD z F c n l S λU B=>{σ,_,B,O}
end
section
variable{X:Cx}{pins:List (Addr×Obj)}{σ:St}{H:Hp}{s:O0}{A:Qx}{E:OX->O0->Prop}{Q:OX->O0->Prop}{c:OX}{b:Bool}
inductive ia (K:OU) (H:Hp):V->OX->Prop where
 |non:ia K H .non (.type "NoneType")
 |bl (x:Bool):ia K H (.bl x) (.type "bool")
 |int (i:Int):ia K H (.int i) (.type "int")
 |str (x:Str):ia K H (.str x) (.type "str")
 |flt (x:UInt64):ia K H (.flt x) (.type "float")
 |lst {a:Addr}{xs:List V} (e:H a=some (.lst xs)):ia K H (.ref a) (.type "list")
 |frz {a:Addr}{o:Obj}{xs:List V} (e:H a=some (.frz o (.lst xs))):ia K H (.ref a) (.type "list")
 |tup {a:Addr}{xs:List V} (e:H a=some (.tup xs)):ia K H (.ref a) (.type "tuple")
 |dK {a:Addr}{kvs:List (Key×V)} (e:H a=some (.dK kvs)):ia K H (.ref a) (.type "dict")
 |dT {a:Addr}{kvs:List (List Key×V)} (e:H a=some (.dT kvs)):ia K H (.ref a) (.type "dict")
 |ins {a C dx:Addr}{fs:List (Str×V)} (e:H a=some (.ins C dx fs)) (cl:jf K C) (ha:PySem.W.findIn K (.ref C) "__class__"=some (some (.builtin "object.__class__")))
  (hn:PySem.W.specialIn K (.builtin "object.__class__") "__get__"=some (some (.builtin "getset_descriptor.__get__"))) (htk:PySem.W.takesIn K (.builtin "object.__class__")=some true)
  (hm:PySem.W.mroIn K C (.type "object")=some true):ia K H (.ref a) (.ref C)
def jr (I:Inv X pins σ H s)(B:RelV x u)(ty:ia X.K H x t)(e:PySem.W.kitOne X.K t c=some b)(h:∀tk,Q (.bool b) {s with toks:=tk}) :
 wpAny (model X.prog X.w) A (call (.builtin "isinstance") [u,c]) Q E s:=by
 cases ty with
 |non=>cases (B);exact Qd PySem.W.kitx_none I.kIn True.intro e (λz=>nomatch z) h
 |bl y=>cases (B);exact Qd PySem.W.kitx_bool I.kIn True.intro e (λz=>nomatch z) h
 |int i=>obtain⟨t,q⟩:=(B);cases q;exact Qd PySem.W.kitx_int I.kIn True.intro e (λz=>nomatch z) h
 |str y=>obtain⟨t,q⟩:=(B);cases q;exact Qd PySem.W.kitx_str I.kIn True.intro e (λz=>nomatch z) h
 |flt y=>obtain⟨t,q⟩:=(B);cases q;exact Qd PySem.W.kitx_float I.kIn True.intro e (λz=>nomatch z) h
 | @lst a xs j =>
   cases (B);obtain⟨_,_,n,_,h1⟩:=(I.hok a _ j);exact Qd PySem.W.kitx_list I.kIn {_,h1,rfl} e (λz=>nomatch z) h
 | @frz a ob xs j =>
   cases (B);obtain⟨_,_,_,n,_,h1⟩:=(I.hok a _ j);exact Qd PySem.W.kitx_list I.kIn {_,h1,rfl} e (λz=>nomatch z) h
 | @tup a xs j =>
   cases (B);obtain⟨_,_,_,p⟩:=(I.hok a _ j);obtain⟨o,h1,h2,_⟩:=p;exact Qd PySem.W.kitx_tuple I.kIn ⟨o,h1,h2⟩ e (λz=>nomatch z) h
 | @dK a L j =>
   cases (B);obtain⟨_,_,S,_,p⟩:=(I.hok a _ j);obtain⟨o,es,M,h1,h2,_⟩:=p;exact Qd PySem.W.kitx_dict I.kIn ⟨o,h1,h2.1⟩ e (λz=>nomatch z) h
 | @dT a L j =>
   cases (B);obtain⟨_,_,xs,_,o,es,M,h1,h2,_⟩:=(I.hok a _ j);exact Qd PySem.W.kitx_dict I.kIn ⟨o,h1,h2.1⟩ e (λz=>nomatch z) h
 | @ins a C dx fs j cl R hn F hm =>
   cases (B);obtain⟨mA,O,_⟩:=mH I.hok j;obtain⟨od,J,_⟩:=O.look;exact Qd (PySem.W.kitx_own (cl.get _) cl.hd R hn F hm) I.kIn J e (λz=>nomatch z) h
end
structure bK (k:Nat) (A:Qx):Prop where
 hd:A.handled=none
 dp:A.depth+3*k+5<recursionLimit
 un:A.units+16*k+200<cLine
 gd:A.guards=some []
def bK.mono (r:bK k A)(h:j<=k):bK j A:={r.hd,by have:=r.dp;omega,by have:=r.un;omega,r.gd}
def bK.deeper (r:bK (k+1) A)(env:Env):bK k (A.deeper env):=
 {r.hd,by have:=r.dp;show A.depth+1+3*k+5<_;omega,by have:=r.un;show A.units+3+16*k+200<_;omega,r.gd}
def wV {A:Qx}:(A.under (.builtin "type.__call__" {.ref C::us,kw})).depth=A.depth+1:=by
 first|rfl|simp[Around.under,Code.weight,Code.isCreation,Code.isGuard,Code.isCaller,Code.frames,Code.isFrame,guardIds]
def wU {A:Qx}:(A.under (.builtin "type.__call__" {.ref C::us,kw})).units=A.units+1:=by
 first|rfl|simp[Around.under,Code.cUnits,Code.frames,Code.isFrame]
def bK.make (r:bK (k+1) A)(C:Addr)(us:List OX)(j:List (Str×OX)):bK k (A.under (.builtin "type.__call__" {.ref C::us,j})):=
 {r.hd,by have:=r.dp;rw[wV];omega,by have:=r.un;rw[wU];omega,r.gd}
def bK.depth (r:bK k A):A.depth<recursionLimit:=by have:=r.dp;omega
def bK.units (r:bK k A):A.units+64<cLine:=by have:=r.un;omega
def Hn:TA:=λ_ H Q=>Q [] H
def KZ (ta:TE)(j:TA):TA:=λσ H Q=>ta σ H λx H1=>j σ H1 λxs H2=>Q (x::xs) H2
section
variable{X:Cx}{e:Expr}{es:List Expr}{te:TE}{t:TA}{pos:Pos}
def eB:PA X [] Hn:=λ_ _ _ _ H Q I h=>Calls.spliced_nil {[],H,I,.nil,h}
def cU (z:PE X e te)(hr:PA X es t)(hs:starEach (e::es) X.env=(false,eval e X.env)::starEach es X.env:=by rfl):PA X (e::es) (KZ te t):=by
 intro pos pins s σ H Q I h;rw[hs];refine Calls.spliced_cons (aI (z pins s σ H _ I h) λu s1 ⟨x,H1,j,r1,B⟩=>?_);exact aI (hr pos pins s1 σ H1 _ j B) λJ s2 ⟨xs,H2,y,r2,F⟩=>{x::xs,H2,y,.cons r1 r2,F}
def Nl (t:TA):TE:=λσ H Q=>t σ H λxs H1=>xs.length<=sizeLine/\∀p,H1 p=none->Q (.ref p) (upd H1 p (.tup xs))
def Nq (t:TA):TE:=λσ H Q=>t σ H λxs H1=>xs.length<=sizeLine/\∀p,H1 p=none->Q (.ref p) (upd H1 p (.lst xs))
def Ij {x1}(h:PA X es t):PE X (.Tuple es x1 pos) (Nl t):=by
 intro pins s σ H Q I y;refine wpAny_Tuple_spliced (aI (h pos pins s σ H _ I y) λB s1 ⟨xs,H1,j,r,z,q⟩=>{by rw[<- r.length];exact z,?_})
 have hf:=j.hok.fresh (OZ _);refine{.ref s1.heap.objs.size,upd H1 s1.heap.objs.size (.tup xs),j.laid (λb u e=>OW _ e) (OZ _) ?_,rfl,q _ hf};exact{z,B,r,{_,Ph _ rfl,rfl,_,rfl}}
def Ip (h:PA X es t):PE X (.List es pos) (Nq t):=by
 intro pins s σ H Q I y;refine wpAny_List_spliced (aI (h pos pins s σ H _ I y) λB s1 ⟨xs,H1,j,r,z,q⟩=>{by rw[<- r.length];exact z,?_})
 have hf:=j.hok.fresh (OZ _);refine{.ref s1.heap.objs.size,upd H1 s1.heap.objs.size (.lst xs),j.laid (λb u e=>OW _ e) (OZ _) ?_,rfl,q _ hf};exact{z,B,0,r,Ph _ rfl}
end
abbrev Sp:=List V->Hp->VK->XK->Prop
abbrev uP:=List Env->Hp->O0->XK->OX->O0->Prop
structure n5 (P:PH) (w:PC) (K:OU) (mg:Str->Option OX) (base:Heap) (A:Qx) (outer:List Env) (s:O0) (H:Hp):Prop where
 frames:A.frames=some outer
 mod:Mod K mg base
 bs:∀b o,base.get? b=some o->s.heap.get? b=some o/\H b=none
 bsz:base.objs.size<=s.heap.objs.size
 funs:s.heap.FunFrames base outer
 frf:∀b∈fo outer,H b=none
 hok:dX P w H s.heap
 bare:AllBare s.gens
def CE (outer:List Env)(P:PH)(w:PC)(H:Hp)(s:O0)(Q:VK)(u:OX)(s':O0):Prop:=
 ∃v H',s'.os=s.os/\AllBare s'.gens/\Un (fo outer) [] H H' s.heap s'.heap/\dX P w H' s'.heap/\RelV v u/\Q v H'
def CR (CX:uP)(outer:List Env)(P:PH)(w:PC)(H:Hp)(s:O0)(Q:VK)(E:XK)(r:Result)(s':O0):Prop:=
 match r with
 |.ok (.ret u)=>CE outer P w H s Q u s'
 |.ok _=>False
 |.error e=>CX outer H s E e s'
structure gJ (P:PH) (w:PC) (K:OU) (mg:Str->Option OX) (base:Heap) (CX:uP) (k:Nat) (f:Addr) (fd:FuncData) (ps:List Str) (sp:Sp):Prop where
 len:∀vs H Q E,sp vs H Q E->vs.length=ps.length
 run:∀(A:Qx) (outer:List Env) (s:O0) (H:Hp) (args:Args) (us:List OX) (vs:List V) (Q:VK) (E:XK),bK k A->n5 P w K mg base A outer s H->BindsTo s fd args (ps.zip us)->Vals vs us->sp vs H Q E->
  codeAny (model P w) A (.call (.ref f) args) (CR CX outer P w H s Q E) s
def n5.make {K:OU}(e:n5 P w K mg base A outer s H)(C:Addr)(us:List OX)(j:List (Str×OX)) :
 n5 P w K mg base (A.under (.builtin "type.__call__" {.ref C::us,j})) outer s H:={by first|exact e.frames|(simpa[Around.under,Code.envs,Code.isFrame,pushEnvs] using e.frames),e.mod,e.bs,e.bsz,e.funs,e.frf,e.hok,e.bare}
section
variable{X:Cx}{pins:List (Addr×Obj)}{σ:St}{H:Hp}{s s':O0}
def Inv.env0 (I:Inv X pins σ H s):n5 X.prog X.w X.K X.mg X.base X.A X.stack s H:=
 {I.ok.frames,I.ok.mod,I.bs,Pa I.ok.bsz I.sz,I.stack,I.stkFree,I.hok,I.bare}
def Inv.after (I:Inv X pins σ H s)(h:CE X.stack X.prog X.w H s Q u s'):EP X pins σ Q u s':=by
 obtain⟨v,H',os,bare,un,hok,r,q⟩:=h;obtain⟨y,g,d,t,j⟩:=s';obtain rfl:j=s.os:=os;exact{v,H',I.call un hok bare (λb z=>absurd z `s),r,q}
end
def CT (sp:Sp)(dvs:List V)(E:XK)(t:TA):TE:=λσ H Q=>t σ H λvs H1=>sp (vs++dvs) H1 Q E
def wy (C:Addr)(m:Str)(sp:Sp)(dvs:List V)(E:XK)(ta:TE)(t:TA):TE:=λσ H Q=>ta σ H λx H1=>∃a dx fs,x=.ref a/\H1 a=some (.ins C dx fs)/\fs.lookup m=none/\
 t σ H1 λj H2=>sp (x::(j++dvs)) H2 Q E
def KU (C:Addr)(sp:Sp)(dvs:List V)(E:XK)(t:TA):TE:=λσ H Q=>t σ H λj H1=>∀x dx,H1 x=none->H1 dx=none->dx≠x->
 sp (.ref x::(j++dvs)) (upd (upd H1 dx (.own x)) x (.ins C dx [])) (λv H2=>v=.non/\Q (.ref x) H2) E
def Binds (K:OU)(fd:FuncData)(ps:List Str)(ds:List OX):Prop:=
 ∀(s:O0) (j:List OX),K.In s.heap->(j++ds).length=ps.length->BindsTo s fd {j,[]} (ps.zip (j++ds))
def Binds.all {K:OU}(h:∀us:List OX,us.length=ps.length->bindArgs fd {us,[]}=pure (ps.zip us)):Binds K fd ps []:=λs us _ hl=>by
 rw[Qr] at hl ⊢;exact .of_eq (h us hl)
def Passes (CX:uP)(X:Cx)(E:XK):Prop:=∀(pins:List (Addr×Obj)) (σ:St) (H:Hp) (s:O0) (e:OX) (s':O0),Inv X pins σ H s->CX X.stack H s E e s'->X.xe e s'
section
variable{X:Cx}{CX:uP}{k:Nat}{f C:Addr}{fd:FuncData}{ps:List Str}{sp:Sp}{dvs:List V}{ds:List OX}{E:XK}{x m:Str}{p pos apos:Pos}{e o:Expr}{es:List Expr}{ta:TE}{t:TA}
def om (F:gJ X.prog X.w X.K X.mg X.base CX k f fd ps sp)(hr:bK k X.A)(y:Binds X.K fd ps ds)(hd:Vals dvs ds)(z:Passes CX X E)
 (I:Inv X pins σ H s) (r:Vals vs us) (h:sp (vs++dvs) H Q E):wpAny (model X.prog X.w) X.A (call (.ref f) us) (EP X pins σ Q) X.xe s:=by
 have r2:=r.append hd;have hl:(us++ds).length=ps.length:=by rw[<- r2.length];exact F.len _ _ _ _ h
 refine wpAny_call (codeAny_mono (F.run X.A X.stack s H {us,[]} (us++ds) (vs++dvs) Q E hr I.env0 (y s us I.kIn hl) r2 h) λr s' j=>?_);cases r with
 |error e=>exact z pins σ H s e s' I j
 | ok fl =>
   cases fl with
   |ret u=>exact I.after j
   |next=>exact False.elim j
   |brk=>exact False.elim j
   |cont=>exact False.elim j
def Fv (F:gJ X.prog X.w X.K X.mg X.base CX k f fd ps sp)(hr:bK k X.A)(L:Gl X x)(hm:X.mg x=some (.ref f))(hk:PySem.W.keepIn X.K (.ref f)=true)(J:Binds X.K fd ps ds)(hd:Vals dvs ds)(M:Passes CX X E)
 (B:PA X (e::es) t) (j:(x==("__debug__":Str))=false:=by decide) (he:starEach (e::es) X.env=(false,eval e X.env)::starEach es X.env:=by rfl) (y:(backTo pos (starEach es X.env)).any (·.1)=false:=by rfl) :
 PE X (.Call (.Name x p) (e::es) [] pos) (CT sp dvs E t):=by
 intro pins s σ H Q I h;refine wpAny_Call_Name_kw (gy I L hm ?_ j);refine Q3 I.ok.mod.kin hk (aI (B pos pins s σ H _ I h) λO s1 ⟨R,H1,z,r,q⟩=>{z.kIn,?_}) he y;exact om F hr J hd M z r q
def Ft (he:PE X o ta)(c:jf X.K C)(hm:Meth X.K C m f)(F:gJ X.prog X.w X.K X.mg X.base CX k f fd ps sp)(hr:bK k X.A)(O:Binds X.K fd ps ds)(hd:Vals dvs ds)(S:Passes CX X E)(M:PA X (e::es) t)
 (y:starEach (e::es) X.env=(false,eval e X.env)::starEach es X.env:=by rfl) (j:(backTo pos (starEach es X.env)).any (·.1)=false:=by rfl)
 (R:eval (.Call (.Attribute o m apos) (e::es) [] pos) X.env=(do
  let J <- eval o X.env
  standAt apos.atName
  let(f,first) <- holding [J] (getMethod J m pl)
  callWith pos f first (backTo pos (starEach (e::es) X.env)) (backToKw pos (keywordEach [] X.env))):=by rfl) :
 PE X (.Call (.Attribute o m apos) (e::es) [] pos) (wy C m sp dvs E ta t):=by
 intro pins s σ H Q I h;refine PySem.W.methodCall_KW (aI (he pins s σ H _ I h) λu s1 ⟨x,H1,z,Y,a,dx,fs,ex,L,l,q⟩=>?_) R;subst ex;obtain rfl:u=Value.ref a:=Y;refine oK z L c hm l ?_;refine Q3 I.ok.mod.kin hm.kp (aI (M pos pins s1 σ H1 _ z q) λus s2 ⟨vs,H2,B,r,U⟩=>{B.kIn,?_}) y j;exact om (vs:=.ref a::vs) F hr O hd S B (.cons rfl r) U
def Bs (he:PE X o ta)(c:jf X.K C)(hm:Meth X.K C m f)(F:gJ X.prog X.w X.K X.mg X.base CX k f fd ps sp)(hr:bK k X.A)(B:Binds X.K fd ps ds)(hd:Vals dvs ds)(L:Passes CX X E)
 (J:eval (.Call (.Attribute o m apos) [] [] pos) X.env=(do
  let y <- eval o X.env
  standAt apos.atName
  let(f,first) <- holding [y] (getMethod y m pl)
  callWith pos f first (backTo pos (starEach [] X.env)) (backToKw pos (keywordEach [] X.env))):=by rfl) :
 PE X (.Call (.Attribute o m apos) [] [] pos) (wy C m sp dvs E ta Hn):=by
 intro pins s σ H Q I h;refine PySem.W.methodCall_KW (aI (he pins s σ H _ I h) λu s1 ⟨x,H1,j,M,a,dx,fs,ex,z,l,q⟩=>?_) J;subst ex;obtain rfl:u=Value.ref a:=M;refine oK j z c hm l ?_;exact PySem.W.callWith_K0 j.kIn hm.kp (om (vs:=[.ref a]) F hr B hd L j (.cons rfl .nil) q)
structure Mk (K:OU) (C f:Addr):Prop where
 makes:PySem.W.makesIn K C=true
 init:PySem.W.findIn K (.ref C) "__init__"=some (some (.ref f))
 fn:PySem.W.isFn K (.ref f)=true
 kp:PySem.W.keepIn K (.ref C)=true
def Bh (M:Mk X.K C f)(F:gJ X.prog X.w X.K X.mg X.base CX k f fd ps sp)(hr:bK (k+1) X.A)(L:Binds X.K fd ps ds)(hd:Vals dvs ds)
 (O:Passes CX X E) (I:Inv X pins σ H s) (r:Vals vs us)
 (h:∀x dx,H x=none->H dx=none->dx≠x->sp (.ref x::(vs++dvs)) (upd (upd H dx (.own x)) x (.ins C dx [])) (λv H2=>v=.non/\Q (.ref x) H2) E) :
 wpAny (model X.prog X.w) X.A (call (.ref C) us) (EP X pins σ Q) X.xe s:=by
 have z:=h (s.heap.objs.size+1) s.heap.objs.size (I.hok.fresh (Rk _)) (I.hok.fresh (OZ _)) (Pu (Nat.lt_succ_self _));have y:=Inv.made (C:=C) I;have r2:Vals (V.ref (s.heap.objs.size+1)::(vs++dvs)) (Value.ref (s.heap.objs.size+1)::(us++ds)):=.cons rfl (r.append hd);have hl:(Value.ref (s.heap.objs.size+1)::us++ds).length=ps.length:=by
  have e:=r2.length;rw[F.len _ _ _ _ z] at e;exact e.symm
 refine wpAny_call (BB I.kIn M.makes M.init (beq_iff_eq.mp M.fn) (codeAny_mono (F.run _ X.stack _ _ {Value.ref (s.heap.objs.size+1)::us,[]} (Value.ref (s.heap.objs.size+1)::(us++ds)) _ _ E (hr.make C us [])
  (y.env0.make C us []) (L _ (Value.ref (s.heap.objs.size+1)::us) y.kIn hl) r2 z) λr s' j=>?_))
 cases r with
 |error e=>exact O pins σ _ _ e s' y j
 | ok fl =>
   cases fl with
   | ret u =>
     obtain⟨v,H',B,S,J,R⟩:=y.after j;subst J;exact{S,{V.ref (s.heap.objs.size+1),H',B,rfl,R}}
   |next=>exact False.elim j
   |brk=>exact False.elim j
   |cont=>exact False.elim j
def Fu (M:Mk X.K C f)(F:gJ X.prog X.w X.K X.mg X.base CX k f fd ps sp)(hr:bK (k+1) X.A)(L:Gl X x)(hm:X.mg x=some (.ref C))(J:Binds X.K fd ps ds)(hd:Vals dvs ds)(O:Passes CX X E)
 (B:PA X (e::es) t) (j:(x==("__debug__":Str))=false:=by decide) (he:starEach (e::es) X.env=(false,eval e X.env)::starEach es X.env:=by rfl) (y:(backTo pos (starEach es X.env)).any (·.1)=false:=by rfl) :
 PE X (.Call (.Name x p) (e::es) [] pos) (KU C sp dvs E t):=by
 intro pins s σ H Q I h;refine wpAny_Call_Name_kw (gy I L hm ?_ j);refine Q3 I.ok.mod.kin M.kp (aI (B pos pins s σ H _ I h) λR s1 ⟨S,H1,z,r,q⟩=>{z.kIn,?_}) he y;exact Bh M F hr J hd O z r q
end
structure iM (N P:List Str) (sc:Scope):Prop where
 kind:sc.kind=.function
 co:sc.isCoroutine=false
 gen:sc.isGenerator=false
 nd:N.Nodup
 pre:N.take P.length=P
 par:∀x∈P,sc.names.lookup x=some .local\/sc.names.lookup x=some .cell
 nofree:∀y∈sc.names,y.2≠.free
def ra {j:Str->Option NameKind}:∀{binds:List (Str×OX)}{m:Str->Option OX},(∀v,(x,v)∉binds)->bindL j binds m x=m x
 |[],_,_=>rfl
 | (n, v) :: r, m, h => by
   unfold bindL;rw[ra λw y=>h w (O6 _ y)];split
   ·have:x≠n:=by rintro rfl;exact h v Pm
    simp[this]
   ·rfl
def rf {j:Str->Option NameKind}:∀{binds:List (Str×OX)}{m:Str->Option OX},(∀v,(x,v)∉binds)->bindC j binds m x=m x
 |[],_,_=>rfl
 | (n, v) :: r, m, h => by
   unfold bindC;rw[rf λw y=>h w (O6 _ y)];split
   ·rfl
   ·have:x≠n:=by rintro rfl;exact h v Pm
    simp[this]
def rb {j:Str->Option NameKind}:∀{P:List Str}{vs:List OX}{i:Nat}{m:Str->Option OX},P.Nodup->P[i]?=some x->vs[i]?=some v->j x=some .local->
 bindL j (P.zip vs) m x=some v
 |[],_,_,_,_,h,_,_=>by simp at h
 |_::_,[],_,_,_,_,h,_=>by simp at h
 | p :: P, w :: vs, 0, m, nd, h1, h2, hk => by
   simp at h1 h2;subst h1;subst h2;show bindL j ((p,w)::P.zip vs) m p=_;unfold bindL;rw[ra λv y=>(Qo.mp nd).1 (List.of_mem_zip y).1,if_pos hk];simp
 | p :: P, w :: vs, i + 1, m, nd, h1, h2, hk => by
   unfold bindL;exact rb (Qo.mp nd).2 (by simpa using h1) (by simpa using h2) hk
def rg {j:Str->Option NameKind}:∀{P:List Str}{vs:List OX}{i:Nat}{m:Str->Option OX},P.Nodup->P[i]?=some x->vs[i]?=some v->j x≠some .local->
 bindC j (P.zip vs) m x=some v
 |[],_,_,_,_,h,_,_=>by simp at h
 |_::_,[],_,_,_,_,h,_=>by simp at h
 | p :: P, w :: vs, 0, m, nd, h1, h2, hk => by
   simp at h1 h2;subst h1;subst h2;show bindC j ((p,w)::P.zip vs) m p=_;unfold bindC;rw[rf λv y=>(Qo.mp nd).1 (List.of_mem_zip y).1,if_neg hk];simp
 | p :: P, w :: vs, i + 1, m, nd, h1, h2, hk => by
   unfold bindC;exact rg (Qo.mp nd).2 (by simpa using h1) (by simpa using h2) hk
noncomputable def start (N:List Str)(vs:List V):St:=vs.map some++List.replicate (N.length-vs.length) none
noncomputable def fF (CX:uP)(P:PH)(w:PC)(K:OU)(mg:Str->Option OX)(base:Heap)(N:List Str)(qual:Str)(j:Scope)(f:Addr)(cd:OX)(A:Qx)(outer:List Env)(s:O0)(H:Hp)(E:XK):Cx where
 prog:=P
 w:=w
 K:=K
 mg:=mg
 base:=base
 A:=A.deeper (envOfC qual j s.heap.objs.size f cd)
 N:=N
 s₀:=s
 H₀:=H
 env:=envOfC qual j s.heap.objs.size f cd
 outer:=outer
 stack:=envOfC qual j s.heap.objs.size f cd::outer
 ex:=[]
 calm:=true
 fn:=λ_=>true
 pn:=[]
 xe:=λe s'=>wpAny (model P w) (A.deeper (envOfC qual j s.heap.objs.size f cd)) (leaving (envOfC qual j s.heap.objs.size f cd) e) (λ_ y=>CX outer H s E e y) (λz y=>CX outer H s E z y) s'
def um {sc:Scope}(h:sc.names.lookup x=some .cell):∃c,(cellsFrom n sc.names []).lookup x=some c:=by
 have q:=PySem.W.cellsFrom_some sc.names n [] (.inl h);exact Option.isSome_iff_exists.mp q
def zK {K:OU}
 (S:iM N ps scope) (hd:A.handled=none) (j:n5 P w K mg base A outer s H) (hl:vs.length=ps.length) (r:Vals vs us)
 (x:InCallC s s.heap.objs.size (bindL (envOfC qual scope s.heap.objs.size f cd).kindOf (ps.zip us) λ_=>none) (cellsFrom (s.heap.objs.size+1) scope.names []) (bindC (envOfC qual scope s.heap.objs.size f cd).kindOf (ps.zip us) λ_=>none) s1) :
 Inv (fF CX P w K mg base N qual scope f cd A outer s H E) [] (start N vs) H s1:=by
 have O:ps.length<=N.length:=by have:=congrArg List.length S.pre;rw[PR] at this;omega
 obtain⟨h1,tk,rfl,hk⟩:=x.done;have F:∀b:Addr,b∉(fF CX P w K mg base N qual scope f cd A outer s H E).ex:=λb z=>absurd (show b∈([]:List Addr) from z) `s
 refine{{j.mod,S.kind,rfl,rfl,OZ _,λy z c h1 h2=>?_,λy B=>?_,λy c _ h=>?_,λ_=>hd,Around.frames_deeper j.frames,.inr ⟨rfl,rfl⟩,λb z=>absurd z (F b),j.bs,j.bsz,λb _ _=>F b,λb z=>absurd z (F b),j.funs,j.frf},
  rfl,j.bare,Un.kept hk,{_,x.toInCall.ns,λi y v h1 h2 h3=>?_},λy c h=>{_,x.cell y c h},j.hok.fresh (OZ _),λy c h=>?_,λp I=>absurd (show p∈([]:List (Addr×Obj)) from I) `s,j.hok.kept hk,?_}
 ·exact name_of_addr x.apart (Rg h1) (Rg h2)
 ·have B:=B;rcases B with B|B
  ·exact um B
  ·exact absurd rfl (S.nofree _ (Rg B))
 ·exact Q4 (x.above y c (Rg h))
 ·have hi:i<vs.length:=by
   unfold start at h2;by_cases hi:i<vs.length
   ·exact hi
   ·rw[Pp (by simpa using hi)] at h2
    rw[Q0] at h2;split at h2<;>cases h2
  have M:vs[i]?=some v:=by
   unfold start at h2;rw[O4 (by simpa using hi),Pt] at h2
   cases e:vs[i]? with
   |none=>rw[e] at h2;cases h2
   |some a=>rw[e] at h2;cases h2;rfl
  obtain⟨u,L,R⟩:=r.get M;have I:ps[i]?=some y:=by
   rw[<- S.pre,List.getElem?_take_of_lt `a];exact h1
  have J:ps.Nodup:=by rw[<- S.pre];exact S.nd.sublist (List.take_sublist _ _)
  refine{u,R,?_};rcases S.par y (PZ I) with k|k
  ·exact .inl {k,rb J I L k}
  ·obtain⟨c,e⟩:=um k;refine .inr {.inl k,c,e,?_};have q:=x.cell y c e;rw[rg J I L (by show scope.names.lookup y≠_;rw[k];decide)] at q
   exact q
 ·exact j.hok.fresh (Q4 (x.above y c (Rg h)))
 ·unfold start;show _=N.length;rw[O9,OY,List.length_replicate];omega
def LG {K:OU}{dV kV L pm j ct oc:OX}
 (lk:K.lookup f=some {oc,od,.func (PySem.W.fnOf name qual params body scope dV kV L pm an j ct),osl}) (U:PySem.W.codeIn K j qual=true) (S:iM N ps scope)
 (len:∀vs H Q E,sp vs H Q E->vs.length=ps.length)
 (B:∀(A:Qx) (outer:List Env) (s:O0) (H:Hp) (vs:List V) (Q:VK) (E:XK),bK k (A.deeper (envOfC qual scope s.heap.objs.size f j))->sp vs H Q E->
  ∃t,j5 (fF CX P w K mg base N qual scope f j A outer s H E) body t/\t {nx:=λ_ H'=>Q .non H',rt:=Q} (start N vs) H) :
 gJ P w K mg base CX (k+1) f (PySem.W.fnOf name qual params body scope dV kV L pm an j ct) ps sp:=by
 refine{len,λA outer s H args us vs Q E hr M hb r R=>?_};have hl:=len _ _ _ _ R;have KX:=M.mod.kin.keeps λb o e=>(M.bs b o e).1;have Y:=M.mod.nolimit.keeps λb o e=>(M.bs b o e).1;have F:∀y∈ps.zip us,scope.names.lookup y.1=some .local\/(scope.names.lookup y.1=some .cell/\((cellsFrom (s.heap.objs.size+1) scope.names []).lookup y.1).isSome=true):=λ⟨n,v⟩ hy=>by
  rcases S.par n (List.of_mem_zip hy).1 with q|q
  ·exact .inl q
  ·exact .inr {q,PySem.W.cellsFrom_some _ _ _ (.inl q)}
 refine codeAny_call_function hr.depth (KX _ _ lk) rfl S.co S.gen rfl (PySem.W.codeRec_of KX U) (hb _ _ _ _ ?_);refine wpAny_newFunctionEnv_cells S.kind F λenv he s1 x=>?_;subst he;refine{Y.keeps x.toInCall.keep,codeAny_func ?_};obtain⟨t,ht,hq⟩:=B A outer s H vs Q E (hr.deeper _) R;have I:Inv (fF CX P w K mg base N qual scope f j A outer s H E) [] (start N vs) H s1:=zK S hr.hd M hl r x;refine wpAny_mono (ht [] s1 (start N vs) H _ I hq) (λfl s' hs=>?_) λe s' hs=>hs;have O:∀{z:St}{H':Hp}{v:V}{u:OX},Inv (fF CX P w K mg base N qual scope f j A outer s H E) [] z H' s'->RelV v u->Q v H'->CE outer P w H s Q u s':=
  λ{z H' v u} J rv q=>⟨v,H',J.os,J.bare,J.base,J.hok,rv,q⟩
 cases fl with
 | ret u =>
   obtain⟨v,z,H',J,rv,q⟩:=hs;exact O J rv q
 | next =>
   obtain⟨z,H',J,q⟩:=hs;exact O (v:=V.non) J rfl q
 | brk =>
   obtain⟨_,_,_,q⟩:=hs;exact False.elim q
 | cont =>
   obtain⟨_,_,_,q⟩:=hs;exact False.elim q
section
variable{X:Cx}{x:Str}{p pos:Pos}{e:Expr}{es:List Expr}{t:TA}{id T:String}{r:List V->Hp->VK->Prop}
def MC (r:List V->Hp->VK->Prop)(t:TA):TE:=λσ H Q=>t σ H λj H1=>r j H1 Q
def ko (F:cu X (.builtin id) r)(J:Gl X x)(hm:X.mg x=none)(L:bootBuiltins x=some (.builtin id))(B:PA X (e::es) t)(hn:x≠"__name__":=by decide)(j:(x==("__debug__":Str))=false:=by decide)
 (he:starEach (e::es) X.env=(false,eval e X.env)::starEach es X.env:=by rfl) (y:(backTo pos (starEach es X.env)).any (·.1)=false:=by rfl):PE X (.Call (.Name x p) (e::es) [] pos) (MC r t):=by
 intro pins s σ H Q I h;refine wpAny_Call_Name_kw (fX I J hm L ?_ hn j);exact PyProof.Rows.callWith_builtin1 (aI (B pos pins s σ H _ I h) λO s1 ⟨R,H1,z,r1,M⟩=>F pins s1 σ H1 R O Q z r1 M) he y
def y9 (F:cu X (.type T) r)(J:Gl X x)(hm:X.mg x=none)(L:bootBuiltins x=some (.type T))(B:PA X (e::es) t)(hn:x≠"__name__":=by decide)(j:(x==("__debug__":Str))=false:=by decide)
 (he:starEach (e::es) X.env=(false,eval e X.env)::starEach es X.env:=by rfl) (y:(backTo pos (starEach es X.env)).any (·.1)=false:=by rfl):PE X (.Call (.Name x p) (e::es) [] pos) (MC r t):=by
 intro pins s σ H Q I h;refine wpAny_Call_Name_kw (fX I J hm L ?_ hn j);exact Qw (aI (B pos pins s σ H _ I h) λO s1 ⟨R,H1,z,r1,M⟩=>F pins s1 σ H1 R O Q z r1 M) he y
end
end L2
namespace HT
open PySem PyProof.Rows
section
variable{prog:PH}{w:PC}{A:Qx}{E:OX->O0->Prop}{s:O0}
def Gu (W:IsTup s.heap t vs.toArray)(S:IsTup s.heap b ws.toArray)(R:vs≠[])
 (h1:ws=[]->Q (.ref t) s) (h2:ws≠[]->Q (.ref s.heap.objs.size) {s with heap:=s.heap.push {cls:=.type "tuple",data:=.seq (vs++ws).toArray}})
 (hsz:vs.length+ws.length<=sizeLine):wpAny (model prog w) A (binaryOp .Add (.ref t) (.ref b)) Q E s:=by
 obtain⟨⟨cls,O,data,sl⟩,ho,U,n,hd⟩:=id W;obtain⟨⟨M,y,I,z⟩,j,J,n2,L⟩:=id S;subst U hd J L;have e:vs.toArray++ws.toArray=(vs++ws).toArray:=`s
 by_cases B:ws=[]
 ·exact concat_meets {_,ho,rfl} {_,j,rfl} noFill_tuple_add seq_tuple_add PySem.F.slot_tuple_add PySem.F.entry_tuple_add (PySem.F.args_tuple_add_2 _ _)
   (tuple_addW1 t b vs.toArray ws.toArray n n2 O y sl z (by simpa using R) (by simp[B])) {ho,j,h1 B}
 ·refine concat_meets {_,ho,rfl} {_,j,rfl} noFill_tuple_add seq_tuple_add PySem.F.slot_tuple_add PySem.F.entry_tuple_add (PySem.F.args_tuple_add_2 _ _)
   (tuple_addW2 t b vs.toArray ws.toArray n n2 O y sl z (by simpa using R) (by simpa using B) (by rw[O7,O7];exact hsz)) {ho,j,?_}
  rw[e];exact h2 B
noncomputable def aK (n d:Nat):Option Int->Nat
 |none=>d
 |some v=>if v<0 then(v+(n:Int)).toNat else min v.toNat n
def v7 (v:Int)(n d:Nat):(if v<0 then max (v+(n:Int)) 0 else min v (n:Int))=((aK n d (some v):Nat):Int):=by
 show(if v<0 then max (v+(n:Int)) 0 else min v (n:Int))=(((if v<0 then(v+(n:Int)).toNat else min v.toNat n):Nat):Int);by_cases j:v<0
 ·simp only[if_pos j];omega
 ·simp only[if_neg j];omega
def xB (lo hi:Option Int)(n:Nat):Builtin.Slice.sliceAdjust lo hi 1 (n:Int)=(((aK n 0 lo:Nat):Int),((aK n n hi:Nat):Int)):=by
 refine Prod.ext ?_ ?_
 ·cases lo with
  |none=>rfl
  |some v=>exact v7 v n 0
 ·cases hi with
  |none=>rfl
  |some v=>exact v7 v n n
def wI (i j:Nat):Builtin.Slice.slicePlaces (i:Int) (j:Int) 1=j-i:=by
 unfold Builtin.Slice.slicePlaces;split<;>omega
def oh (p:IsPart v o)(h:Q o s):wpAny (model prog w) A (Builtin.Slice.slicePartIndex v) Q E s:=by
 cases p with
 |none=>exact slicePart_none h
 |int i t=>exact slicePart_int h
def iQ {lo hi:Option Int}{Q:Int×Int×Nat->O0->Prop}(hs:s.heap.IsSliceOf sl vl vu .none)(pl:IsPart vl lo)(B:IsPart vu hi)
 (h:Q (((aK n 0 lo:Nat):Int),1,aK n n hi-aK n 0 lo) s):wpAny (model prog w) A (Builtin.Slice.sliceApplied (.ref sl) (pure (n:Int))) Q E s:=by
 obtain⟨os,y,z,j⟩:=id hs;refine tqa (tqa (tqf y j rfl (tqa (tqf y j rfl (tqa (tqf y j rfl (tqb ?_)))))));refine tqa (slicePart_none ?_);rw[if_neg `d]
 refine tqa (oh pl (tqa (oh B (tqa (tqb ?_)))));show wpAny _ _ (match Builtin.Slice.sliceAdjust lo hi 1 (n:Int) with|(lo,hi)=>pure (lo,(1:Int),Builtin.Slice.slicePlaces lo hi 1)) _ _ s
 rw[xB lo hi n];show wpAny _ _ (pure (((aK n 0 lo:Nat):Int),(1:Int),Builtin.Slice.slicePlaces ((aK n 0 lo:Nat):Int) ((aK n n hi:Nat):Int) 1)) _ _ s;rw[wI];exact tqb h
def Bq (xs:Array OX)(i k:Nat):((List.range k).filterMap λ(m:Nat)=>xs[((i:Int)+(m:Int)*1).toNat]?).toArray=((xs.toList.drop i).take k).toArray:=by
 have e:(λ(m:Nat)=>xs[((i:Int)+(m:Int)*1).toNat]?)=λm=>xs[i+m]?:=by
  funext m
  have:((i:Int)+(m:Int)*1).toNat=i+m:=`a
  rw[this]
 rw[e];have:=pick_run xs i k;rw[List.filterMap_map] at this;have e2:((λx=>xs[x]?)∘λx=>i+x)=λm=>xs[i+m]?:=rfl;rw[e2] at this;rw[this]
def mT {lo hi:Option Int}(y:IsTup s.heap t items)(hs:s.heap.IsSliceOf sl vl vu .none)(pl:IsPart vl lo)(M:IsPart vu hi)
 (L:¬ (aK items.size 0 lo=0/\aK items.size items.size hi=items.size))
 (h:Q (.ref s.heap.objs.size) {s with heap:=s.heap.push {cls:=.type "tuple",data:=.seq ((items.toList.drop (aK items.size 0 lo)).take (aK items.size items.size hi-aK items.size 0 lo)).toArray}})
 (hsz:items.size<=sizeLine):wpAny (model prog w) A (getItem (.ref t) (.ref sl)) Q E s:=by
 have j:sizeOk (.seq ((items.toList.drop (aK items.size 0 lo)).take (aK items.size items.size hi-aK items.size 0 lo)).toArray):=by
  show((items.toList.drop (aK items.size 0 lo)).take (aK items.size items.size hi-aK items.size 0 lo)).toArray.size<=sizeLine;rw[O7,PR,Qv,QY];omega
 obtain⟨os,I,B,J⟩:=id hs;have z:s.TypeIs (.ref sl) "slice":=⟨os,I,B⟩;unfold getItem;try with_reducible refine tqo ?_
 first|refine tqa (tqb ?_)|skip
 refine tqa (wpAny_sequenceKey y.typeIs `d ?_)
 refine tqa (wpAny_callSpecial?_slot y.typeIs Qn
  (wpAny_call_entry Qn y.typeIs entry_tuple_getitem ?_ (args_tuple_getitem _ _)))
 show wpAny _ _ (Builtin.Tuple.tupleItemsOf (.ref t) >>= _) _ _ s;refine tqa (tupleItemsOf_ y ?_);refine tqa (wpAny_typeOf z ?_);rw[if_pos `d]
 refine tqa (iQ hs pl M ?_);have F:¬ ((((aK items.size 0 lo:Nat):Int)==0&&(1:Int)==1&&(aK items.size items.size hi-aK items.size 0 lo)==items.size)=true):=by
  intro q;rw[O3,O3] at q;have O:=eq_of_beq q.1.1;have R:=eq_of_beq q.2;exact L {`a,`a}
 show wpAny _ _ (if (((aK items.size 0 lo:Nat):Int)==0&&(1:Int)==1&&(aK items.size items.size hi-aK items.size 0 lo)==items.size)=true then _ else _) _ _ s;rw[if_neg F,Bq];first
  |exact tqa (wpAny_newObj_type (tqb {_,rfl,tqb h}) j)
  |exact tqa (wpAny_newObj_type (tqa (tqb (tqb {_,rfl,tqb h}))) j)
  |exact tqa (tqa (wpAny_newObj_type (tqb (tqb {_,rfl,tqb h})) j))
  |exact tqa (tqa (wpAny_newObj_type (tqb {_,rfl,tqb h}) j))
end
end HT
namespace L2
open PySem PySem.Spec PyProof.Rows
abbrev TO:=St->Hp->(Option Int->Hp->Prop)->Prop
def PO (X:Cx)(e:Option Expr)(t:TO):Prop:=
 ∀(pins:List (Addr×Obj)) (s:O0) (σ:St) (H:Hp) (Q:Option Int->Hp->Prop),Inv X pins σ H s->t σ H Q->
  wpAny (model X.prog X.w) X.A (evalPart e X.env) (λu s'=>∃o H',Inv X pins σ H' s'/\IsPart u o/\Q o H') X.xe s
def EH:TO:=λ_ H Q=>Q none H
def KR (t:TE):TO:=λσ H Q=>t σ H λx H1=>∃i,x=.int i/\Q (some i) H1
section
variable{X:Cx}{e:Expr}{te:TE}{lo hi:Option Expr}{tl th:TO}{pos p2:Pos}
def Fq:PO X none EH:=by
 intro pins s σ H Q I h;rw[evalPart_none];exact tqb {none,H,I,.none,h}
def Fp (h:PE X e te):PO X (some e) (KR te):=by
 intro pins s σ H Q I y;rw[evalPart_some];refine aI (h pins s σ H _ I y) λu s1 ⟨x,H1,j,r1,z⟩=>?_;obtain⟨i,rfl,q⟩:=z;obtain⟨t,rfl⟩:=r1;exact{some i,H1,j,.int i t,q}
def mi (X:Cx)(r:V->Option Int->Option Int->Hp->VK->Prop):Prop:=
 ∀(pins:List (Addr×Obj)) (s:O0) (σ:St) (H:Hp) (x:V) (v j y:OX) (lo hi:Option Int) (sl:Addr) (Q:VK),Inv X pins σ H s->RelV x v->s.heap.IsSliceOf sl j y .none->IsPart j lo->IsPart y hi->r x lo hi H Q->
  ∃T id,typeLookup (.type T) "__getitem__"=pure (some (.builtin id))/\s.TypeIs v T/\wpAny (model X.prog X.w) X.A (getItem v (.ref sl)) (EP X pins σ Q) X.xe s
def mi.or (h:mi X r)(h':mi X r'):mi X (λx lo hi H Q=>r x lo hi H Q\/r' x lo hi H Q):=by
 intro pins s σ H x v z B lo hi sl Q I y hs pl j q;rcases q with q|q
 ·exact h pins s σ H x v z B lo hi sl Q I y hs pl j q
 ·exact h' pins s σ H x v z B lo hi sl Q I y hs pl j q
def tSl (r:V->Option Int->Option Int->Hp->VK->Prop)(te:TE)(tl th:TO):TE:=λσ H Q=>te σ H λx H1=>tl σ H1 λl H2=>th σ H2 λu j=>r x l u j Q
def Br (hr:mi X r)(he:PE X e te)(hl:PO X lo tl)(U:PO X hi th):PE X (.Subscript e (.Slice lo hi none p2) pos) (tSl r te tl th):=by
 intro pins s σ H Q I h;refine Subscript_ (aI (he pins s σ H _ I h) λv s1 ⟨x,H1,F,r1,Y⟩=>?_);refine wpAny_Slice (aI (hl pins s1 σ H1 _ F Y) λy s2 ⟨l,H2,J,pl,q2⟩=>aI (U pins s2 σ H2 _ J q2) λz j ⟨u,B,L,W,q3⟩=>?_);rw[evalPart_none];refine tqb ?_;have M:Inv X pins σ B {j with heap:=j.heap.push {cls:=.type "slice",data:=.fields #[y,z,.none]}}:=L.kept λb ob q=>OW _ q
 obtain⟨T,id,O,S,R⟩:=hr pins {j with heap:=j.heap.push {cls:=.type "slice",data:=.fields #[y,z,.none]}} σ B x v y z l u j.heap.objs.size Q M r1 (Heap.IsSliceOf.new ..) pl W q3
 exact tail_any S O R (by with_unfolding_all rfl)
def qi (xs:List V)(lo hi:Option Int):List V:=(xs.drop (HT.aK xs.length 0 lo)).take (HT.aK xs.length xs.length hi-HT.aK xs.length 0 lo)
def m8 (xs:List V)(lo hi:Option Int):(qi xs lo hi).length<=xs.length:=by
 unfold qi;rw[PR,Qv];omega
def HS (K:OU):V->Option Int->Option Int->Hp->VK->Prop:=λx lo hi H Q=>∃a xs,x=.ref a/\dD K H a xs/\
 ¬ (HT.aK xs.length 0 lo=0/\HT.aK xs.length xs.length hi=xs.length)/\∀p,H p=none->Q (.ref p) (upd H p (.tup (qi xs lo hi)))
def Hu:mi X (HS X.K):=by
 intro pins s σ H x v O R lo hi sl Q I M hs pl L h;obtain⟨a,xs,rfl,J,F,q⟩:=h;cases M;obtain⟨y,r,z,B⟩:=I.tuple J;have j:y.toArray.size=xs.length:=by rw[O7];exact r.length.symm
 refine{"tuple",_,Qn.lookup,z.typeIs,?_};refine HT.mT z hs pl L (by rw[j];exact F) ?_ (by rw[j];exact B)
 rw[j];refine{.ref s.heap.objs.size,_,I.laid (λb ob q=>OW _ q) (OZ _) ?_,rfl,q _ (I.hok.fresh (OZ _))};exact{Pa (m8 xs lo hi) B,_,(r.drop (HT.aK xs.length 0 lo)).take (HT.aK xs.length xs.length hi-HT.aK xs.length 0 lo),IsTup.new _ _}
def Lb (K:OU):R2:=λx y H Q=>∃a b xs ys,x=.ref a/\y=.ref b/\dD K H a xs/\dD K H b ys/\xs≠[]/\xs.length+ys.length<=sizeLine/\
 (ys=[]->Q (.ref a) H)/\(ys≠[]->∀p,H p=none->Q (.ref p) (upd H p (.tup (xs++ys))))
def Vals.nil_iff (r:Vals xs us):us=[]↔xs=[]:=by
 cases r with
 |nil=>simp
 |cons _ _=>simp
def FA:bz X (binaryOp .Add) (Lb X.K):=by
 intro pins s σ H x y v u Q I S U h;obtain⟨a,b,xs,ys,rfl,rfl,F,J,L,j,O,R⟩:=h;cases S;cases U;obtain⟨M,r1,p1,_⟩:=I.tuple F;obtain⟨B,r2,p2,_⟩:=I.tuple J;refine HT.Gu p1 p2 (λz=>L (r1.nil_iff.mp z)) (λz=>{.ref a,H,I,rfl,O (r2.nil_iff.mp z)}) (λz=>?_) (by rw[<- r1.length,<- r2.length];exact j)
 refine{.ref s.heap.objs.size,_,I.laid (λb ob q=>OW _ q) (OZ _) ?_,rfl,R (λw=>z (r2.nil_iff.mpr w)) _ (I.hok.fresh (OZ _))};exact{by rw[O9];exact j,_,r1.append r2,IsTup.new _ _}
end
def b6 (n:Nat)(i:Int):Option Nat:=if 0<=i then(if i<n then some i.toNat else none) else if -(n:Int)<=i then some (i+n).toNat else none
def rn {y:Type}(xs:List y)(i:Int):Option y:=(b6 xs.length i).bind λj=>xs[j]?
def vM {n:Nat}{i:Int}{j:Nat}(h:b6 n i=some j):seqIndex? i n=some j/\j<n/\-(n:Int)<=i/\i<n:=by
 unfold b6 at h;by_cases y:0<=i
 ·rw[if_pos y] at h;by_cases h1:i<n
  ·rw[if_pos h1] at h;have e:=O2 h;exact{by rw[seqIndex_of y h1,e],`a,`a,h1}
  ·rw[if_neg h1] at h;cases h
 ·rw[if_neg y] at h;by_cases h1:-(n:Int)<=i
  ·rw[if_pos h1] at h;have e:=O2 h;exact{by rw[seqIndex_neg `a h1,e],`a,h1,`a}
  ·rw[if_neg h1] at h;cases h
def qo {y:Type}{xs:List y}{i:Int}{v:y}(h:rn xs i=some v):∃j,seqIndex? i xs.length=some j/\xs[j]?=some v/\j<xs.length/\-(xs.length:Int)<=i/\i<xs.length:=by
 unfold rn at h;cases e:b6 xs.length i with
 |none=>rw[e] at h;cases h
 | some j =>
   rw[e] at h;obtain⟨h1,h2,h3,h4⟩:=vM e;exact⟨j,h1,h,h2,h3,h4⟩
def fP (b:Expr):Prop:=∀o i,subscripted b false o i=operate [o,i] (getItem o i)
def jA (X:Cx)(r:R2):Prop:=
 ∀(value j:Expr) (pins:List (Addr×Obj)) (s:O0) (σ:St) (H:Hp) (x y:V) (v u:OX) (Q:VK),Inv X pins σ H s->RelV x v->RelV y u->r x y H Q->
  subscripted j false v u=operate [v,u] (getItem v u)->wpAny (model X.prog X.w) X.A (subscriptTail value j v u) (EP X pins σ Q) X.xe s
def MtR (X:Cx)(id:String)(r:V->List V->Hp->VK->Prop):Prop:=
 ∀(pins:List (Addr×Obj)) (s:O0) (σ:St) (H:Hp) (x:V) (xs:List V) (v:OX) (j:List OX) (Q:VK),Inv X pins σ H s->RelV x v->Vals xs j->r x xs H Q->
  wpAny (model X.prog X.w) X.A (call (.builtin id) (v::j)) (EP X pins σ Q) X.xe s
section
variable{X:Cx}{a b:Expr}{ta tb:TE}{pos:Pos}
def jA.or (h:jA X r)(h':jA X r'):jA X (λx y H Q=>r x y H Q\/r' x y H Q):=by
 intro value j pins s σ H x y v u Q I z B q hs;rcases q with q|q
 ·exact h value j pins s σ H x y v u Q I z B q hs
 ·exact h' value j pins s σ H x y v u Q I z B q hs
def ow (hr:jA X r)(z:PE X a ta)(B:PE X b tb)(hs:fP b):PE X (.Subscript a b pos) (yq r ta tb):=by
 intro pins s σ H Q I h;exact Subscript_ (Cf z B I h λv u s2 x y H2 j F J q=>hr a b pins s2 σ H2 x y v u Q j F J q (hs _ _))
def HX (K:OU):R2:=λx y H Q=>∃p xs i v,x=.ref p/\y=.int i/\c9 K H p xs/\rn xs i=some v/\Q v H
def HV (K:OU):R2:=λx y H Q=>∃p xs i v,x=.ref p/\y=.int i/\dD K H p xs/\rn xs i=some v/\Q v H
def HW:R2:=λx y H Q=>∃z i c,x=.str z/\y=.int i/\z.length<=sizeLine/\rn z.cps.toList i=some c/\Q (.str {#[c]}) H
def FT:jA X (HX X.K):=by
 intro value M pins s σ H x y v u Q I W Y h hs;obtain⟨p,xs,i,z,rfl,rfl,U,he,q⟩:=h;cases W;obtain⟨t,rfl⟩:=Y;obtain⟨J,r,pl,hz⟩:=I.list U;obtain⟨j,h1,h2,h3,h4,S⟩:=qo he;obtain⟨w,O,L⟩:=r.get h2;have hl:=r.length;have hn:=iZ;have B:EP X pins σ Q w s:=⟨z,H,I,L,q⟩;by_cases R:0<=i
 ·have F:i.toNat=j:=by
   rw[seqIndex_of R S] at h1;exact O2 h1
  exact item_listR pl.isList R `a (by rw[F];simpa using O) B hs
 ·have F:(i+(J.toArray.size:Int)).toNat=j:=by
   rw[seqIndex_neg `a h4] at h1
   rw[O7,<- hl];exact O2 h1
  exact subscriptTail_builtinR pl.isList.typeIs slot_list_getitem.lookup
   (wpAny_getItem_list_neg pl.isList `a (by rw[O7]<;>omega) `a (by rw[F];simpa using O) ⟨rfl,B⟩) hs
def Ji:jA X (HV X.K):=by
 intro value J pins s σ H x y v u Q I R S h hs;obtain⟨p,xs,i,z,rfl,rfl,M,he,q⟩:=h;cases R;obtain⟨t,rfl⟩:=S;obtain⟨O,r,pl,W⟩:=I.tuple M;obtain⟨j,h1,h2,h3,h4,U⟩:=qo he;obtain⟨w,L,F⟩:=r.get h2;have hl:=r.length;have hn:=iZ;have B:EP X pins σ Q w s:=⟨z,H,I,F,q⟩;exact subscriptTail_builtinR pl.typeIs slot_tuple_getitem.lookup
  (getItem_tuple pl `a `a (by rw[O7,<- hl];exact h1) (by simpa using L) ⟨rfl,B⟩) hs
def Jj:jA X HW:=by
 intro value B pins s σ H x y v u Q I J L h hs;obtain⟨z,i,c,rfl,rfl,M,he,q⟩:=h;obtain⟨t,rfl⟩:=J;obtain⟨O,rfl⟩:=L;obtain⟨j,h1,h2,h3,h4,F⟩:=qo he;have hl:z.cps.toList.length=z.length:=by simp[Str.length]
 rw[hl] at h1 h4 F;have hn:=iZ;exact tail_any (typeIs_str s z t) slot_str_getitem.lookup (getItem_str (by
  have e1:decide (i < -(2^63:Int))=false:=decide_eq_false `a
  have e2:decide (i≥2^63)=false:=decide_eq_false `a
  rw[e1,e2,Bool.or_false]) (by rw[h1];simpa using h2) {.str {#[c]},H,I.tok _,{_,rfl},q}) hs
def HY (K:OU):R2:=λx y H Q=>HX K x y H Q\/HV K x y H Q\/HW x y H Q
def Jk:jA X (HY X.K):=FT.or (Ji.or Jj)
def wR (its:List OX)(n j:Nat)(u:OX):Obj.mapSeq (·.setIfInBounds j u) {cls:=.type "list",data:=.seq its.toArray n}={cls:=.type "list",data:=.seq (its.set j u).toArray n}:=by
 simp[Obj.mapSeq]
def Inv.lst (I:Inv X pins σ H s)(h:H p=some (.lst xs)) :
 ∃(j:List OX) (n:Nat),Vals xs j/\s.heap.get? p=some {cls:=.type "list",data:=.seq j.toArray n}/\xs.length<=sizeLine:=by
 obtain⟨z,j,n,r,e⟩:=I.hok p _ h;exact⟨j,n,r,e,z⟩
def Inv.lstUpd {pins:List (Addr×Obj)}{σ:St}{H:Hp}{s:O0}{p:Addr}{xs ys:List V}{j its':List OX}{n n':Nat}{f:Obj->Obj}(I:Inv X pins σ H s)(h:H p=some (.lst xs))
 (ho:s.heap.get? p=some {cls:=.type "list",data:=.seq j.toArray n}) (hf:f {cls:=.type "list",data:=.seq j.toArray n}={cls:=.type "list",data:=.seq its'.toArray n'}) (r:Vals ys its') (hz:ys.length<=sizeLine) (t:Nat) :
 Inv X pins σ (upd H p (.lst ys)) {s with heap:=s.heap.update p f,toks:=t}:=by
 have e:(s.heap.update p f).get? p=some {cls:=.type "list",data:=.seq its'.toArray n'}:=by
  rw[QG f ho (by rw[hf]<;>rfl),hf]
 refine I.write (by rw[h];trivial) (.inl rfl) (λb u y q=>(QD _ _ (Qk y)).trans q) {_,e} ?_
 exact⟨hz,its',n',r,e⟩
def CZ:V->V->V->Hp->(Hp->Prop)->Prop:=λo i v H Q=>∃p xs k j,o=.ref p/\i=.int k/\H p=some (.lst xs)/\b6 xs.length k=some j/\Q (upd H p (.lst (xs.set j v)))
def set_list:Cn X CZ:=by
 intro pins s σ H o i v S R u Q I ro M O h;obtain⟨p,xs,k,j,rfl,rfl,F,J,q⟩:=h;cases ro;obtain⟨t,rfl⟩:=M;obtain⟨y,n,r,ho,L⟩:=I.lst F;obtain⟨h1,h2,h3,h4⟩:=vM J;have hl:=r.length;have hn:=iZ;have z:Inv X pins σ (upd H p (.lst (xs.set j v))) {s with heap:=s.heap.update p (Obj.mapSeq (·.setIfInBounds j u))}:=
  I.lstUpd F ho (wR y n j u) (r.set O j) (by rw[List.length_set];exact L) s.toks
 by_cases B:0<=k
 ·have hk:k.toNat=j:=by
   rw[seqIndex_of B h4] at h1;exact O2 h1
  exact PySem.W.ki_setAt ho B `a (by rw[O7,<- hl];exact h4) (by rw[hk];exact{_,z,q})
 ·have hk:(k+(y.toArray.size:Int)).toNat=j:=by
   rw[seqIndex_neg `a h3] at h1
   rw[O7,<- hl];exact O2 h1
  exact PySem.W.ki_setBack ho `a (by rw[O7,<- hl];exact h3) `a (by rw[hk];exact{_,z,q})
def sE (lo hi:Option Int)(n:Nat):(sliceBounds lo hi none n).1=((HT.aK n 0 lo:Nat):Int)/\(sliceBounds lo hi none n).2.1=((HT.aK n n hi:Nat):Int)/\(sliceBounds lo hi none n).2.2=1:=by
 refine{?_,?_,rfl}
 ·cases lo with
  |none=>simp[sliceBounds,HT.aK]
  | some i =>
    simp only[sliceBounds,HT.aK,Option.getD_none,show(1:Int) > 0 by decide,if_true]
    by_cases h:i<0
    ·simp only[h,if_true]<;>omega
    ·simp only[h,if_false]<;>omega
 ·cases hi with
  |none=>simp[sliceBounds,HT.aK]
  | some i =>
    simp only[sliceBounds,HT.aK,Option.getD_none,show(1:Int) > 0 by decide,if_true]
    by_cases h:i<0
    ·simp only[h,if_true]<;>omega
    ·simp only[h,if_false]<;>omega
def rC (j:List OX)(lo hi:Option Int):slicePick j.toArray lo hi none=((j.drop (HT.aK j.length 0 lo)).take (HT.aK j.length j.length hi-HT.aK j.length 0 lo)).toArray:=by
 obtain⟨h1,h2,h3⟩:=sE lo hi j.toArray.size;unfold slicePick;rw[h1,h2,h3];simp only[sliceRange_one,pick_run,O7]<;>rfl
def HU (K:OU):V->Option Int->Option Int->Hp->VK->Prop:=λx lo hi H Q=>∃a xs,x=.ref a/\c9 K H a xs/\∀p,H p=none->Q (.ref p) (upd H p (.lst (qi xs lo hi)))
def E3:mi X (HU X.K):=by
 intro pins s σ H x v M O lo hi sl Q I L hs pl J h;obtain⟨a,xs,rfl,z,q⟩:=h;cases L;obtain⟨F,r,y,B⟩:=I.list z;have j:=r.length;refine{"list",_,slot_list_getitem.lookup,y.isList.typeIs,?_};refine wpAny_getItem_list_slice y.isList hs pl J .none `s ?_ (by rw[O7]<;>omega)
 rw[rC,<- j];refine{.ref s.heap.objs.size,_,I.laid (λb ob q=>OW _ q) (OZ _) ?_,rfl,q _ (I.hok.fresh (OZ _))};exact{Pa (m8 xs lo hi) B,_,0,(r.drop (HT.aK xs.length 0 lo)).take (HT.aK xs.length xs.length hi-HT.aK xs.length 0 lo),Ph _ rfl}
def uu:cu X (.builtin "len") (λxs H Q=>∃p ys,xs=[.ref p]/\(c9 X.K H p ys\/dD X.K H p ys)/\Q (.int ys.length) H):=by
 intro pins s σ H xs L Q I r h;obtain⟨p,ys,rfl,y,q⟩:=h;obtain⟨u,rfl,J⟩:=vals1 r;cases J;have hn:=iZ;rcases y with y|y
 ·obtain⟨z,B,pl,F⟩:=I.list y;have j:=B.length;exact Calls.call_len_list pl.isList (by simp only[O7]<;>omega) {.int ys.length,H,I.tok _,{s.toks+1,by rw[O7,j]},q}
 ·obtain⟨z,B,pl,F⟩:=I.tuple y;have j:=B.length;exact len_tuple pl (by simp only[O7]<;>omega) {.int ys.length,H,I.tok _,{s.toks+1,by rw[O7,j]},q}
def ur:cu X (.builtin "len") (λxs H Q=>∃z,xs=[.str z]/\z.length<=sizeLine/\Q (.int z.length) H):=by
 intro pins s σ H xs y Q I r h;obtain⟨z,rfl,j,q⟩:=h;obtain⟨u,rfl,t,rfl⟩:=vals1 r;have hn:=iZ;exact len_str `a {.int z.length,H,I.tok _,{_,rfl},q}
def cu.or (h:cu X f r)(h':cu X f r'):cu X f (λxs H Q=>r xs H Q\/r' xs H Q):=by
 intro pins s σ H xs j Q I rs q;rcases q with q|q
 ·exact h pins s σ H xs j Q I rs q
 ·exact h' pins s σ H xs j Q I rs q
def uq:cu X (.type "list") (λxs H Q=>∃p ys,xs=[.ref p]/\(c9 X.K H p ys\/dD X.K H p ys)/\∀l,H l=none->Q (.ref l) (upd H l (.lst ys))):=by
 intro pins s σ H xs R Q I r h;obtain⟨p,ys,rfl,J,q⟩:=h;obtain⟨u,rfl,O⟩:=vals1 r;cases O;have B:∀(j:List OX),Vals ys j->ys.length<=sizeLine->∀(h':Heap) (y:Nat),(∀b o',s.heap.get? b=some o'->h'.get? b=some o')->
  h'.get? s.heap.objs.size=some {cls:=.type "list",dict:=none,data:=.seq j.toArray y,slots:=#[]}->EP X pins σ Q (.ref s.heap.objs.size) {s with heap:=h'}:=λj z L h' y kp e=>
  {.ref s.heap.objs.size,_,I.laid kp (OZ _) (show eA X.prog X.w _ h' _ (.lst ys) from⟨L,j,y,z,e⟩),rfl,q _ (I.hok.fresh (OZ _))}
 rcases J with J|J
 ·obtain⟨j,z,pl,L⟩:=I.list J;have F:=z.length;obtain⟨o,ho,M,n,hd⟩:=pl.isList;exact call_list_seq p (.inl rfl) ho M hd (λh' y kp e=>B j z L h' y kp e) (by simp only[O7]<;>omega)
 ·obtain⟨j,z,pl,L⟩:=I.tuple J;have F:=z.length;obtain⟨o,ho,M,n,hd⟩:=pl;exact call_list_seq p (.inr rfl) ho M hd (λh' y kp e=>B j z L h' y kp e) (by simp only[O7]<;>omega)
def rJ:cu X (.type "tuple") (λxs H Q=>∃p ys,xs=[.ref p]/\((c9 X.K H p ys/\∀l,H l=none->Q (.ref l) (upd H l (.tup ys)))\/(dD X.K H p ys/\Q (.ref p) H))):=by
 intro pins s σ H xs O Q I r h;obtain⟨p,ys,rfl,h⟩:=h;obtain⟨u,rfl,M⟩:=vals1 r;cases M;rcases h with⟨y,q⟩|⟨y,q⟩
 ·obtain⟨j,z,pl,J⟩:=I.list y;have F:=z.length;refine call_tuple_list pl.isList (λh' kp=>?_) (by simp only[O7]<;>omega)
  have B:=I.kept (t':=s.toks) kp;have L:Inv X pins σ (upd H h'.objs.size (.tup ys)) {s with heap:=h'.push {cls:=.type "tuple",data:=.seq j.toArray}}:=
   B.laid (λb o e=>OW _ e) (OZ _) ({J,j,z,IsTup.new _ _})
  exact{.ref h'.objs.size,_,L,rfl,q _ (B.hok.fresh (OZ _))}
 ·obtain⟨j,z,pl,J⟩:=I.tuple y;exact call_tuple_same pl {.ref p,H,I,rfl,q}
def My (K:OU)(T:String)(x:V)(H:Hp):Prop:=match x with
 |.str _=>T="str"
 |.int _=>T="int"
 |.ref p=>(T="list"/\∃xs,c9 K H p xs)\/(T="tuple"/\∃o,K.lookup p=some o/\o.cls=.type "tuple"/\o.dict=none)\/
  (T="dict"/\((∃kvs,H p=some (.dK kvs))\/(∃kvs,H p=some (.dT kvs))\/∃es,H p=some (.dn es)))\/(T="set"/\∃S n,H p=some (.set S n))
 |_=>False
def Hi (I:Inv X pins σ H s)(r:RelV x v)(ty:My X.K T x H) :
 s.TypeIs v T/\∀a,v=.ref a->∃ob,s.heap.get? a=some ob/\ob.dict=none:=by
 cases x with
 | str z =>
   obtain⟨t,rfl⟩:=r;cases (ty);exact{typeIs_str s z t,λ_ e=>nomatch e}
 | int i =>
   obtain⟨t,rfl⟩:=r;cases (ty);exact{typeIs_int s i t,λ_ e=>nomatch e}
 | ref p =>
   cases r;rcases ty with⟨rfl,xs,B⟩|⟨rfl,o,hk,y,hd⟩|⟨rfl,hk⟩|⟨rfl,S,n,hk⟩
   ·obtain⟨F,_,pl,_⟩:=I.list B;refine{pl.isList.typeIs,λa e=>?_};cases e;obtain⟨o,n,e,c,hd,_⟩:=pl;exact⟨o,e,hd⟩
   ·refine{{o,I.kIn p o hk,y},λa e=>?_};cases e;exact{o,I.kIn _ o hk,hd}
   ·have z:∃o,s.heap.get? p=some o/\o.ExactDict:=by
     rcases hk with⟨j,hk⟩|⟨j,hk⟩|⟨es,hk⟩
     rotate_left 2
     ·obtain⟨_,_,o,e,ex,_⟩:=I.hok p _ hk;exact⟨o,e,ex⟩
     ·obtain⟨_,_,_,_,o,_,_,e,ex,_⟩:=I.hok p _ hk;exact⟨o,e,ex⟩
     ·obtain⟨_,_,_,_,o,_,_,e,ex,_⟩:=I.hok p _ hk;exact⟨o,e,ex⟩
    obtain⟨o,e,ex⟩:=z;refine{⟨o,e,ex.1⟩,λa e2=>?_};cases e2;exact⟨o,e,ex.2.1⟩
   ·obtain⟨o,_,_,_,e,ex,_⟩:=I.hok p _ hk;refine{⟨o,e,ex.1⟩,λa e2=>?_};cases e2;exact⟨o,e,ex.2.1⟩
 |_=>exact False.elim ty
def tBM (K:OU)(T:String)(r:V->List V->Hp->VK->Prop)(to:TE)(t:TA):TE:=λσ H Q=>to σ H λx H1=>My K T x H1/\t σ H1 λxs H2=>r x xs H2 Q
variable{o e:Expr}{es:List Expr}{to:TE}{t:TA}{name:Str}{apos cpos:Pos}{T id:String}{r:V->List V->Hp->VK->Prop}
def C1 (R:PlainAttrs T)(slot:Slot T name id)(F:typeOf (.builtin id)=pure (.type "method_descriptor"))(hm:MtR X id r)(ho:PE X o to)(O:PA X (e::es) t)
 (y:attributeBase o name X.env (eval o X.env)=eval o X.env:=by rfl)
 (B:((backTo cpos (starEach (e::es) X.env)).all (λx=>!x.1)&&(backToKw cpos (keywordEach [] X.env)).all (λx=>x.1.isSome)
  && decide ((e::es).length+([]:List Keyword).length+(if ([]:List Keyword).isEmpty then 0 else 1)<30))=true:=by rfl)
 (z:(apos.endLine==cpos.line)=true:=by rfl) (hs:starEach (e::es) X.env=(false,eval e X.env)::starEach es X.env:=by rfl) (j:(backTo cpos (starEach es X.env)).any (·.1)=false:=by rfl) :
 PE X (.Call (.Attribute o name apos) (e::es) [] cpos) (tBM X.K T r to t):=by
 intro pins s σ H Q I h;refine wpAny_Call_method_late y B z rfl (aI (ho pins s σ H _ I h) λv s1 ⟨x,H1,J,r1,ty,S⟩=>?_);obtain⟨h1,h2⟩:=Hi J r1 ty;refine{T,id,R,slot,F,h1,h2,?_};have L:=O cpos pins s1 σ H1 _ J S;rw[hs] at L ⊢;refine Calls.callWith_builtin (by show(false||(backTo cpos (starEach es X.env)).any (·.1))=false;rw[j]<;>rfl) (Calls.evalArgs_plain ?_)
 exact aI L λW s2 ⟨Y,H2,M,r2,U⟩=>hm pins s2 σ H2 x Y v W Q M r1 r2 U
end
def MtM (X:Cx)(id:String)(r:V->List V->Hp->VK->Prop):Prop:=
 ∀(pins:List (Addr×Obj)) (s:O0) (σ:St) (H:Hp) (x:V) (xs:List V) (v:OX) (j:List OX) (Q:VK),Inv X pins σ H s->RelV x v->Vals xs j->r x xs H Q->
  wpAny (model X.prog X.w) X.A (call (.builtin id) (v::j)) (EP X pins σ Q) X.xe s
def Vals.one:∀{x:V}{us:List OX},Vals [x] us->∃u,us=[u]/\RelV x u
 |_,_,.cons r .nil=>{_,rfl,r}
def Vals.rep (h:Vals xs us):∀k:Nat,Vals (List.replicate k xs).flatten (List.replicate k us).flatten
 |0=>.nil
 | k + 1 => by
   rw[QL,QL,Rb,Rb];exact Vals.append h (Vals.rep h k)
def foldl_rep (j:List OX):∀(k:Nat) (acc:List OX),
 List.foldl (λx1 x2=>x1++x2) acc.toArray (List.replicate k j.toArray)=(acc++(List.replicate k j).flatten).toArray
 |0,acc=>`s
 | k + 1, acc => by
   have e:acc.toArray++j.toArray=(acc++j).toArray:=`s
   have e2:(acc++j)++(List.replicate k j).flatten=acc++(List.replicate (k+1) j).flatten:=by
    rw[QL,Rb,Qp]
   rw[<- e2,<- foldl_rep j k (acc++j),<- e,QL,List.foldl_cons]
section
variable{X:Cx}{pins:List (Addr×Obj)}{σ:St}{H:Hp}{s:O0}{l b:Addr}{xs ys zs:List V}
def Inv.lset {j its':List OX}(I:Inv X pins σ H s)(y:H l=some (.lst xs))
 (e:s.heap.get? l=some {cls:=.type "list",data:=.seq j.toArray n}) (hf:f j.toArray=its'.toArray) (F:Vals ys its') (hz:ys.length<=sizeLine) :
 Inv X pins σ (upd H l (.lst ys)) {s with heap:=s.heap.update l (Obj.mapSeq f),toks:=t'}:=by
 have q:=PySem.IsL.update e f;rw[hf] at q;refine I.write (by rw[y];exact trivial) (.inl rfl) (λJ u z B=>(QD s.heap (Obj.mapSeq f) (Qk z)).trans B) {_,q} ?_
 exact{hz,its',_,F,q}
def Inv.lnew (I:Inv X pins σ H s)(j:Vals ys its)(hz:ys.length<=sizeLine) :
 Inv X pins σ (upd H s.heap.objs.size (.lst ys)) {s with heap:=s.heap.push {cls:=.type "list",data:=.seq its.toArray},toks:=t'}:=
 I.laid (λ_ _ q=>OW _ q) (OZ _) {hz,its,0,j,Ph _ rfl}
def Inv.fresh (I:Inv X pins σ H s):H s.heap.objs.size=none:=I.hok.fresh (OZ _)
def Inv.lstM (I:Inv X pins σ H s)(y:H l=some (.lst xs)):xs.length<=sizeLine/\∃(j:List OX) (n:Nat),Vals xs j/\xs.length=j.length/\s.heap.get? l=some {cls:=.type "list",data:=.seq j.toArray n}:=by
 obtain⟨z,j,n,r,e⟩:=I.hok l _ y;exact⟨z,j,n,r,r.length,e⟩
def nF (h:n<=sizeLine):Builtin.List.listTooLong n=false:=by
 exact decide_eq_false `a
end
section
variable{X:Cx}
def Fh:V->List V->Hp->VK->Prop:=λx j H Q=>∃l xs y,x=.ref l/\j=[y]/\H l=some (.lst xs)/\xs.length<sizeLine/\Q .non (upd H l (.lst (xs++[y])))
def lJ:MtM X "list.append" Fh:=by
 intro pins s σ H x S v R Q I M L h;obtain⟨l,xs,y,rfl,rfl,B,O,q⟩:=h;cases M;obtain⟨u,rfl,J⟩:=L.one;obtain⟨z,j,n,r,hl,e⟩:=I.lstM B;refine call_meets F.slot_list_append {_,e,rfl} F.entry_list_append (F.args_list_append_2 _ _) (PySem.list_append l j.toArray n u (by rw[O7];omega)) {e,?_}
 refine{.non,_,I.lset B e `s (r.append (.cons J .nil)) ?_,rfl,q}
 rw[O9,Q8];omega
def NC:R2:=λx y H Q=>∃l b xs zs,x=.ref l/\y=.ref b/\H l=some (.lst xs)/\H b=some (.lst zs)/\xs.length+zs.length<=sizeLine/\∀p,H p=none->Q (.ref p) (upd H p (.lst (xs++zs)))
def ID:bz X (binaryOp .Add) NC:=by
 intro pins s σ H x y v u Q I O R h;obtain⟨l,b,xs,zs,rfl,rfl,L,J,S,q⟩:=h;cases O;cases R;obtain⟨z,B,n,r,hl,e⟩:=I.lstM L;obtain⟨U,j,n2,r2,M,e2⟩:=I.lstM J;refine PySem.P.add_list e e2 ?_ (by rw[O7,O7];omega)
 have F:B.toArray++j.toArray=(B++j).toArray:=`s
 rw[F];exact{.ref _,_,I.lnew (r.append r2) (by rw[O9];omega),rfl,q _ I.fresh}
def NB:R2:=λx y H Q=>∃l k xs,x=.ref l/\y=.int k/\H l=some (.lst xs)/\-(2^63)<=k/\k<2^63/\xs.length*k.toNat<=sizeLine/\
 ∀p,H p=none->Q (.ref p) (upd H p (.lst (List.replicate k.toNat xs).flatten))
def len_rep {y:Type}(xs:List y)(k:Nat):(List.replicate k xs).flatten.length=k*xs.length:=by
 induction k with
 |zero=>simp
 |succ k j=>rw[QL,Rb,O9,j,Nat.succ_mul,Nat.add_comm]
def Iw:bz X (binaryOp .Mult) NB:=by
 intro pins s σ H x y v u Q I W Y h;obtain⟨l,k,xs,rfl,rfl,U,h1,h2,R,q⟩:=h;cases W;obtain⟨t,rfl⟩:=Y;obtain⟨z,j,n,r,hl,e⟩:=I.lstM U;have M:j.toArray.size*k.toNat<=sizeLine:=by rw[O7,<- hl];exact R
 have J:¬ j.toArray.size*k.toNat > (2^63-1) / 8:=by
  have:(sizeLine:Nat)<=(2^63-1) / 8:=`d
  omega
 have L:¬ (!Builtin.List.listFitsIndex k)=true:=by
  rw[fitsIndex_both h1 h2];exact Pq
 have B:¬ Builtin.List.listTooLong (j.toArray.size*k.toNat)=true:=by
  rw[nF M];exact Pq
 have O:List.foldl (λx1 x2=>x1++x2) #[] (List.replicate (if j.toArray.isEmpty=true then 0 else k.toNat) j.toArray)=(List.replicate k.toNat j).flatten.toArray:=by
  have S:=λm=>by
   have:=foldl_rep j m [];rw[List.nil_append] at this;exact this
  rw[S];cases j with
  |nil=>simp
  |cons a r'=>rw[if_neg `s]
 refine wpAny_binaryOp_repeat_ref `d {_,e,rfl} (λs'=>typeIs_int s' k t) noFill_list_mul F.fills_int_mul F.slot_int_rmul repeat_list F.slot_int_index.lookup
  (call_meets F.slot_int_rmul (typeIs_int s k t) F.entry_int_rmul (F.args_int_rmul_2 _ _) (int___rmul___int_list k t l j.toArray n)
   {e,rfl,{_,e,rfl},call_meets F.slot_list_mul {_,e,rfl} F.entry_list_mul (F.args_list_mul_2 _ _) (AutoListH.list___mul___list_int_3 l j.toArray n k t L J B) {e,?_}})
 rw[O];exact{.ref _,_,I.lnew (r.rep k.toNat) (by rw[len_rep,Nat.mul_comm];exact R),rfl,q _ I.fresh}
end
section
variable{prog:PH}{w:PC}{A:Qx}{E:OX->O0->Prop}{s:O0}
def yv (j y:List OX)(a c:Nat):j.toArray.extract 0 a++y.toArray++j.toArray.extract c j.toArray.size=(j.take a++y++j.drop c).toArray:=by
 apply Array.toList_inj.mp;first
  | (simp
     exact Pw `s)
  |simp[Pw]
  |simp
def xx {a c n:Nat}(j:a<=c)(y:c<=n):sliceBounds (some (a:Int)) (some (c:Int)) none n=((a:Int),(c:Int),1):=by
 simp only[sliceBounds,Option.getD_none]
 congr 1
 ·omega
 ·congr 1;omega
set_option maxRecDepth 100000 in
def rD {a c:Nat}
 (e:s.heap.get? l=some {cls:=.type "list",data:=.seq items n}) (e2:s.heap.get? b=some {cls:=.type "list",data:=.seq new n2}) (hne:l≠b)
 (hs:s.heap.IsSliceOf sl vl vu .none) (pl:IsPart vl (some (a:Int))) (pu:IsPart vu (some (c:Int))) (hac:a<=c) (hc:c<=items.size)
 (hsz:items.size+new.size<=sizeLine) (h:Q () {s with heap:=s.heap.update l (Obj.mapSeq λxs=>xs.extract 0 a++new++xs.extract c xs.size)}) :
 wpAny (model prog w) A (setItem (.ref l) (.ref sl) (.ref b)) Q E s:=by
 have hl:=PySem.IsL.isList e;have hb:=PySem.IsL.isList e2;obtain⟨os,hos,hcs,hds⟩:=id hs;have hTs:s.TypeIs (.ref sl) "slice":=⟨os,hos,hcs⟩;have hstep:¬ ((rawPart none==rawInt 0)=true):=Pq;have hsame:Builtin.List.listSameRef (.ref l) (.ref b)=false:=by
  exact Qf.mpr hne
 have hmax:(max (a:Int) (c:Int)).toNat=c:=`a
 have hz':((λxs:Array OX=>xs.extract 0 a++new++xs.extract c xs.size) items).size<=sizeLine+1:=by
  simp only[Array.size_append,Array.size_extract];omega
 unfold setItem;try with_reducible refine tqo ?_
 first|refine tqa (tqb ?_)|skip
 refine tqa (wpAny_sequenceKey hl.typeIs `d ?_)
 refine tqa (wpAny_callSpecial?_slot hl.typeIs slot_list_setitem
  (wpAny_call_entry slot_list_setitem hl.typeIs entry_list_setitem ?_ (args_list_setitem _ _ _)))
 show wpAny _ _ (Builtin.List.listSubscript? (.ref sl) >>= _) _ _ s;refine tqa ?_;refine tqa (wpAny_specialOf hTs slice_no_index ?_);refine tqb ?_;refine tqa (wpAny_typeOf hTs ?_);first
  |rw[if_neg `d]
  |refine PySem.W.KFB.if_not `d ?_
 rw[listSliceParts_eq];refine tqa (tqa (tqf hos hds rfl (tqa (wpAny_listPart .none ?_))));rw[if_neg hstep];refine tqa (tqf hos hds rfl (tqa (wpAny_listPart pl ?_)));refine tqa (tqf hos hds rfl (tqa (wpAny_listPart pu (tqb ?_))));first
  |simp only[hsame,Bool.false_eq_true,if_false]
  |refine PySem.W.KFB.if_not hsame ?_
  | (dsimp only
     rw[if_neg (by rw[hsame];exact Pq)])
 refine tqa ?_;refine tqa (wpAny_typeOf hb.typeIs ?_);first
  |refine PySem.W.KFB.if_so `d ?_
  |rw[if_pos `d]
  |simp only[beq_self_eq_true,Bool.true_or,if_true]
 refine tqa (wpAny_seqItems e2 rfl (tqb ?_));refine tqa (tqa (wpAny_seqItems e rfl (tqb ?_)));refine tqa (wpAny_of_eq ((sliceIndices_raw (some (a:Int)) (some (c:Int)) none items.size `s).trans (congrArg (pure:Int×Int×Int->Sem (Int×Int×Int)) (xx hac hc))) ?_)
 show wpAny _ _ (if ((1:Int)==1)=true then _ else _) _ _ s;rw[if_pos `d]
 refine tqa (wpAny_rule ?_);first
  |simp only[nF hsz,Bool.false_eq_true,if_false]
  |refine PySem.W.KFB.if_not (nF hsz) ?_
 first|refine tqa (tqb ?_)|skip
 rw[hmax,QB];refine tqa (wpAny_updateSeq e rfl ?_);refine tqa (wpAny_letGo ?_);first
  |exact tqa (tqb (tqb {.none,rfl,tqb h}))
  |exact tqb {.none,rfl,tqb h}
end
section
variable{X:Cx}
def yM {a c:Int}{s:O0}(I:Inv X pins σ H s)
 (L:H l=some (.lst xs)) (R:H b=some (.lst ys)) (B:l≠b) (hs:s.heap.IsSliceOf sl vl vu .none) (U:RelV (.int a) vl) (W:RelV (.int c) vu) (J:0<=a) (y:a<=c) (Y:c<=xs.length)
 (hz:xs.length+ys.length<=sizeLine) (h:∀s',Inv X pins σ (upd H l (.lst (xs.take a.toNat++ys++xs.drop c.toNat))) s'->Q () s') :
 wpAny (model X.prog X.w) X.A (setItem (.ref l) (.ref sl) (.ref b)) Q X.xe s:=by
 obtain⟨ta,rfl⟩:=U;obtain⟨tc,rfl⟩:=W;obtain⟨z,F,n,r,hl,e⟩:=I.lstM L;obtain⟨z2,j,n2,r2,S,e2⟩:=I.lstM R;obtain⟨M,rfl⟩:=Q1 J;obtain⟨O,rfl⟩:=Q1 (Int.le_trans J y);refine rD e e2 B hs (.int _ _) (.int _ _) `a (by rw[O7];omega) (by rw[O7,O7];omega) (h _ ?_)
 refine I.lset L e ?_ (Vals.append (Vals.append (r.take _) r2) (r.drop _)) ?_
 ·exact yv F j M O
 ·rw[O9,O9,PR,Qv];omega
end
end L2
namespace Att
open PySem PySem.W PySem.Calls PyProof.Rows
def oJ:∀(ns:List Int) (vs:List OX),WellAll P h vs (ns.map WData.int)->IntsAre vs ns:=by
 intro ns;induction ns with
 | nil =>
   intro vs w;rw[List.map_nil] at w;cases w;exact .nil
 | cons n ns j =>
   intro vs w;rw[PV] at w;cases w with
   | cons a b =>
     cases a;exact .cons _ _ (j _ b)
def yO {l:OpenLaw}(hn:l.most=some n)
 (j:l.row.toRowW.claim.pre args=true) (I:WellAll P h vals args) :
 ∃a vs ns,vals=[Value.ref a]/\args=[WData.list (ns.map WData.int)]/\h.get? a=some {cls:=.type "list",data:=.seq vs.toArray}/\IntsAre vs ns/\ns.length<=n:=by
 have F:WShape.hasAll [] args [.list .int]=true:=(pre_splitW j).1;have J:l.pre.holds [] {args:=args}=true:=(pre_splitW j).2;obtain⟨d,r,rfl,h1,h2⟩:=hasAllW_cons F;obtain rfl:=hasAllW_nil h2;obtain⟨xs,rfl,h3⟩:=hasW_list h1;obtain⟨ns,rfl⟩:=items_int h3;have z:ns.length<=n:=by
  have h4:(WTm.not (.lt (.lit (.int (n:Int))) (.len (.arg 0)))).holds [] {args:=[.list (ns.map .int)]}=true:=by
   have h4:=(holds_andW J).1;rw[hn] at h4;exact h4
  have B:=condW_of h4 (w_not (w_lt w_lit (w_len_list (w_arg rfl))));rw[OY] at B;refine Nat.le_of_not_lt λq=>?_;first
   |(rw[decide_eq_true q'] at B;exact absurd B `d)
   |(simp at B;omega)
 cases I with
 | cons L w2 =>
   cases w2;cases L with
   |list ho y=>exact{_,_,ns,rfl,rfl,ho,oJ ns _ y,z}
def yY (l:OpenLaw)(args:List WData):l.row.toRowW.claim.post args (.bool true) args=true:=
 postW_of
  (show WShape.has [] (.bool true) .bool=true by first|rfl|decide|simp[WShape.has,WShape.arms,WShape.armsAll])
  (w_eq_bool (w_res rfl) w_lit) rfl
def attach_call {l:OpenLaw}
 (hn:l.most=some n) (L:d.params.defaults=[])
 (call:∀(w:PC) (s₀ j:O0) (mg R:Str->Option OX) (fa:Addr) (o:Obj) (pm cd y:OX) (a:Addr) (vs:List OX) (ns:List Int),
  Ground q loose [] XP w s₀ mg R j.heap->YP w j.heap->
  j.heap.get? fa=some o->o.data=.func (docDef d.name d.params d.body d.scope pm cd y)->j.heap.CodeRec cd d.name->mg d.name=some (.ref fa)->
  j.heap.get? a=some {cls:=.type "list",data:=.seq vs.toArray}->IntsAre vs ns->ns.length<=n->j.gens=#[]->
  codeAny (model l.prog w) callerA (.call (.ref fa) {[.ref a],[]}) (λr s'=>r=.ok (.ret (.bool true))/\OldK j.heap s'.heap/\s'.os=j.os/\AllBare s'.gens) j) :
 WalkO q loose XP YP l.row.toRowW d [] (λf vs=>PySem.call f vs):=by
 intro w s₀ j mg R G Y fa o pm cd y dV kV ho hd J U M hg S vals as I W hrd O hlo;obtain rfl:dV=.none:=Dflts.none U L;obtain rfl:kV=.none:=Dflts.noKw U;obtain⟨a,vs,ns,rfl,rfl,F,z,B⟩:=yO hn I O;refine enter_call (codeAny_mono (call w s₀ j mg R fa o pm cd y a vs ns G Y ho (fd_plain hd) J M F z B hg) λr s' hq=>?_);obtain⟨rfl,h2,h3,h4⟩:=hq;exact{.inl {.bool true,.bool true,[],rfl,λ_=>rfl,.bool true,yY l _,λ_=>{List.Pairwise.nil,λ_ hm=>(nomatch hm)}},h2,h3,h4}
end Att
namespace L2
open PySem PySem.Spec PyProof.Rows
def qw:∀{vs:List OX}{ns:List Int},IntsAre vs ns->Vals (ns.map V.int) vs
 |_,_,.nil=>.nil
 |_,_,.cons n t h=>.cons ⟨t,rfl⟩ (qw h)
def xG (H:Hp):Prop:=∀b,H b=none\/∃o xs,H b=some (.frz o (.lst xs))
def BH {K:OU}
 (KX:K.In s₁.heap) (M:s₁.heap.Ns mainGlobals mg) (j:s₁.heap.Ns builtinsNs mb) (hbb:∀x:Str,x≠"__name__"->mb x=bootBuiltins x) (L:s₁.heap.NoLimit) (hg:s₁.gens=#[])
 (Y:s₁.heap.get? a=some {cls:=.type "list",data:=.seq vs.toArray}) (hi:IntsAre vs ns) (hl:ns.length<=sizeLine) (hr:bK k callerA)
 (F:∀base:Heap,K.In base->base.Ns mainGlobals mg->gJ P w K mg base CX k fa fd [x] sp) (I:∀(s:O0) (u:OX),BindsTo s fd {[u],[]} [(x,u)])
 (hsp:∀H:Hp,xG H->c9 K H a (ns.map V.int)->sp [.ref a] H (λv _=>v=.bl true) λ_ _ _=>False)
 (hCX:∀H e s',CX [] H s₁ (λ_ _ _=>False) e s'->False) :
 codeAny (model P w) callerA (.call (.ref fa) {[.ref a],[]}) (λr s'=>r=.ok (.ret (.bool true))/\OldK s₁.heap s'.heap/\s'.os=s₁.os/\AllBare s'.gens) s₁:=by
 have rv:=qw hi;have R:=hi.length;have B:∀H:Hp,xG H->c9 K H a (ns.map V.int)->dX P w H s₁.heap->(∀b,H b≠none->b=a)->(H a≠none->K.lookup a=none)->
  codeAny (model P w) callerA (.call (.ref fa) {[.ref a],[]}) (λr s'=>r=.ok (.ret (.bool true))/\OldK s₁.heap s'.heap/\s'.os=s₁.os/\AllBare s'.gens) s₁:=by
  intro H hO hS hok hA hK;have fO:∀{b:Addr}{o:Obj},s₁.heap.get? b=some o->H b=none->(lT s₁.heap H).get? b=some o:=λe n=>BW e n;have noA:∀{b:Addr}{o:Obj}{es:Array QN}{U:Nat},s₁.heap.get? b=some o->o.data=.dict es U->H b=none:=λ{b o es U} e d=>by
   cases q:H b with
   |none=>rfl
   | some u =>
     have e':=hA b (by rw[q];simp)
     subst e';rw[Y] at e;cases e;have d':=d;cases d'
  have y:∀{b:Addr}{m:Str->Option OX},s₁.heap.Ns b m->(lT s₁.heap H).Ns b m:=λ{b m} ⟨o,es,U,e,d,r⟩=>{o,es,U,fO e (noA e d),d,r};have J:=λb o e=>fO (KX b o e) (by
   cases q:H b with
   |none=>rfl
   | some u =>
     have e':=hA b (by rw[q];simp)
     subst e';rw[hK (by rw[q];simp)] at e;cases e)
  have hM:Mod K mg (lT s₁.heap H):={J,y M,{mb,y j,hbb},let⟨mc,h1,h2⟩:=L;{mc,y h1,h2}}
  have e0:n5 P w K mg (lT s₁.heap H) callerA [] s₁ H:={rfl,hM,λb o e=>FC e,Nat.le_of_eq (zN _ _),trivial,λb j=>absurd (show b∈([]:List Addr) from j) `s,hok,.of_eq hg}
  refine codeAny_mono ((F _ J (y M)).run callerA [] s₁ H {[.ref a],[]} [.ref a] [.ref a] _ _ hr e0 (I s₁ (.ref a)) (.cons rfl .nil) (hsp H hO hS)) λr s' h=>?_;cases r with
  |error e=>exact(hCX H e s' h).elim
  | ok fl =>
    cases fl with
    |next=>exact False.elim h
    |brk=>exact False.elim h
    |cont=>exact False.elim h
    | ret u =>
      obtain⟨v,H',os,bare,un,O,r',q⟩:=h;have q':=q;subst q';obtain rfl:u=Value.bool true:=r';refine{rfl,OldK.of_keep λb o e=>?_,os,bare};cases q:H b with
      |none=>exact un.keep b o e q (by intro z;exact absurd (show b∈([]:List Addr) from z) `s) `s
      | some u =>
        rcases hO b with z|⟨ob,xs,z⟩
        ·rw[q] at z;cases z
        ·have z2:=un.frzs b ob _ z;obtain⟨e1,_⟩:=hok b _ z;obtain⟨e2,_⟩:=O b _ z2;rw[e] at e1;cases e1;exact e2
 cases hk:K.lookup a with
 | some o =>
   have e:=KX a o hk;rw[Y] at e;cases e;refine B (λ_=>none) (λ_=>.inl rfl) (.inr {_,vs.toArray,_,hk,rfl,rfl,rfl,by rw[O7,R];exact hl,by simpa using rv}) (λb u z=>by have S:=z;cases S) (λb z=>absurd rfl z) λz=>absurd rfl z
 | none =>
   refine B (λb=>if b=a then some (.frz {cls:=.type "list",data:=.seq vs.toArray} (.lst (ns.map V.int))) else none) (λb=>?_) (.inl (.inr {{cls:=.type "list",data:=.seq vs.toArray},if_pos rfl})) (λb u z=>?_) (λb z=>?_) λ_=>hk
   ·by_cases j:b=a
    ·exact .inr {_,_,if_pos j}
    ·exact .inl (if_neg j)
   ·by_cases j:b=a
    ·have S:=(if_pos j).symm.trans z;cases S;subst j;exact{Y,by rw[OY];exact hl,vs,_,rv,Y}
    ·have S:=(if_neg j).symm.trans z;cases S
   ·by_cases j:b=a
    ·exact j
    ·exact absurd (if_neg j) z
def El {l:PySem.W.OpenLaw}{K:QK->OU}{CX:PC->uP}{sp:PC->Sp}
 (hn:l.most=some n) (M:n<=sizeLine) (J:d.params.defaults=[]) (hr:bK k callerA)
 (hY:∀(w:PC) (h:Heap),YP w h->(K w.params).In h)
 (F:∀(w:PC) (mg:Str->Option OX) (fa:Addr) (h:Heap),(K w.params).In h->h.Ns mainGlobals mg->mg d.name=some (.ref fa)->
  ∃fd:FuncData,(∀(s:O0) (u:OX),BindsTo s fd {[u],[]} [(x,u)])/\
   ∀base:Heap,(K w.params).In base->base.Ns mainGlobals mg->gJ l.prog w (K w.params) mg base (CX w) k fa fd [x] (sp w))
 (O:∀(w:PC) (H:Hp) (a:Addr) (ns:List Int),ns.length<=n->xG H->c9 (K w.params) H a (ns.map V.int)->sp w [.ref a] H (λv _=>v=.bl true) λ_ _ _=>False)
 (I:∀(w:PC) (H:Hp) (s:O0) (e:OX) (s':O0),CX w [] H s (λ_ _ _=>False) e s'->False) :
 PySem.W.WalkO q loose XP YP l.row.toRowW d [] (λf vs=>PySem.call f vs):=by
 refine Att.attach_call hn J λw s₀ B mg mb fa o pm cd S a vs ns G Y ho hd hcd L z y j hg=>?_;have R:=hY w _ Y;obtain⟨fd,hb,U⟩:=F w mg fa _ R G.T.g L;exact BH R G.T.g G.T.b G.T.builtins G.T.nolimit hg z y (Pa j M) hr U hb (λH hO hS=>O w H a ns j hO hS) λH e s'=>I w H B e s'
noncomputable def inClass (s:Stmt)(j:Nat):Stmt:=match s with
 |.ClassDef _ _ _ body _ _ _ _ _ _ _=>body.getD j (.Pass {0,0,0,0})
 |_=>.Pass {0,0,0,0}
noncomputable def eE (s:Stmt):Arguments:=match s with
 |.FunctionDef _ a _ _ _ _ _ _ _ _=>a
 |_=>{posonlyargs:=[],args:=[],vararg:=none,kwonlyargs:=[],kw_defaults:=[],kwarg:=none,defaults:=[]}
noncomputable def cV (s:Stmt):List Stmt:=match s with
 |.FunctionDef _ _ b _ _ _ _ _ _ _=>b
 |_=>[]
noncomputable def aY (s:Stmt):Scope:=match s with
 |.FunctionDef _ _ _ _ _ _ sc _ _ _=>sc
 |_=>{kind:=.function,names:=[],isGenerator:=false,isCoroutine:=false}
abbrev E0:XK:=λ_ _ _=>False
structure we (K:OU) (x qual:Str) (st:Stmt) (f:Addr) (fd:FuncData):Prop where
 ex:∃(oc:OX) (od:Option Addr) (kV doc pm:OX) (an:Option Addr) (cdv ct:OX) (osl:Array (Option OX)),
  fd=PySem.W.fnOf x qual (eE st) (cV st) (aY st) .none kV doc pm an cdv ct/\K.lookup f=some {oc,od,.func fd,osl}/\PySem.W.codeIn K cdv qual=true
 kp:PySem.W.keepIn K (.ref f)=true
section
variable{P:PH}{w:PC}{K:OU}{mg:Str->Option OX}{base:Heap}
def Ju {x qual:Str}{st:Stmt}{f:Addr}{oc:OX}{od B:Option Addr}{z:Array (Option OX)}{kV y pm j ct:OX}(l:K.lookup f=some {oc,od,.func (PySem.W.fnOf x qual (eE st) (cV st) (aY st) .none kV y pm B j ct),z})
 (c:PySem.W.codeIn K j qual=true) (k:PySem.W.keepIn K (.ref f)=true):we K x qual st f (PySem.W.fnOf x qual (eE st) (cV st) (aY st) .none kV y pm B j ct):={⟨oc,od,kV,y,pm,B,j,ct,z,rfl,l,c⟩,k}
end
def BQ {A B:Prop}(h:B):if false=true then A else B:=by
 rw[if_neg Pq];exact h
def Jo {A B:Prop}(h:A):if true=true then A else B:=by
 rw[if_pos rfl];exact h
end L2
namespace LD
open PySem
inductive D where
 |non|bl (b:Bool)|int (i:Int)|str (x:Str)|tup (ds:List D)|lst (ds:List D)|frz (ds:List D)|cell (k:Nat)|fn (f:Nat)|exc (c:Nat) (p:Option Int)
 deriving Inhabited
abbrev Mem:=List (List D)
abbrev Env:=List (Option D)
inductive Res (α:Type) where
 |ok (a:α) (M:Mem)
 |err (x:D) (M:Mem)
 |bad
noncomputable def Res.bind {h j:Type}(r:Res h)(f:h->Mem->Res j):Res j:=match r with
 |.ok a M=>f a M
 |.err x M=>.err x M
 |.bad=>.bad
@[simp] theorem Res.bind_ok {h j:Type}(a:h)(M:Mem)(f:h->Mem->Res j):(Res.ok a M).bind f=f a M:=rfl
@[simp] theorem Res.bind_err {h j:Type}(x:D)(M:Mem)(f:h->Mem->Res j):(Res.err x M:Res h).bind f=.err x M:=rfl
@[simp] theorem Res.bind_bad {h j:Type}(f:h->Mem->Res j):(Res.bad:Res h).bind f=.bad:=rfl
inductive rB where
 |add|sub|mul|fdiv|mod|pow
 deriving DecidableEq
inductive jC where
 |eq|ne|lt|le|gt|ge|isN|notN|isin|notin
 deriving DecidableEq
inductive Ty where
 |int|bool|str|tuple|list|own (c:Str)
 deriving DecidableEq
inductive wh where
 |len|tuple|list (m:Bool)|listR (m:Bool)|all|sum|repr
 deriving DecidableEq
inductive fg where
 |one (i:Nat)
 |tup (l:List Nat)
 |two (i:Nat) (l:List Nat)
noncomputable def sz:Nat:=16777216
noncomputable def a7 (m:Bool)(ds:List D)(M:Mem):Res D:=if ds.length<=sz then(if m then .ok (.cell M.length) (M++[ds]) else .ok (.lst ds) M) else .bad
noncomputable def kv (ds:List D)(M:Mem):Res D:=if ds.length<=sz then .ok (.tup ds) M else .bad
noncomputable def bR (M:Mem):D->Option (List D)
 |.lst h=>some h
 |.tup h=>some h
 |.frz h=>some h
 |.cell k=>M[k]?
 |_=>none
noncomputable def d3 (M:Mem):D->Option (List D)
 |.lst h=>some h
 |.frz h=>some h
 |.cell k=>M[k]?
 |_=>none
noncomputable def iY (M:Mem):D->Option (List D)
 |.lst h=>some h
 |.cell k=>M[k]?
 |_=>none
noncomputable def aj:Nat->D->Bool
 |_,.non=>true
 |_,.bl _=>true
 |_,.int _=>true
 |_,.str x=>x.cps.all (· < 0x110000)
 |n+1,.tup h=>h.all (aj n)
 |n+1,.lst h=>h.all (aj n)
 |0,.tup _=>false
 |0,.lst _=>false
 |_,.frz _=>false
 |_,.cell _=>false
 |_,.fn _=>false
 |_,.exc _ _=>false
mutual
noncomputable def bW:D->D->Bool
 |.non,.non=>true
 |.bl a,.bl b=>a==b
 |.bl a,.int b=>(if a then 1 else 0)==b
 |.int a,.bl b=>a==(if b then 1 else 0)
 |.int a,.int b=>a==b
 |.str a,.str b=>a==b
 |.tup a,.tup b=>dB a b
 |.lst a,.lst b=>dB a b
 |_,_=>false
noncomputable def dB:List D->List D->Bool
 |[],[]=>true
 |a::r,b::t=>bW a b&&dB r t
 |[],_::_=>false
 |_::_,[]=>false
end
noncomputable def gp:D->Bool
 |.str _=>true
 |_=>false
def m7 (a b:D):Option Bool:=if gp a&&gp b||aj 64 a&&aj 64 b then some (bW a b) else none
noncomputable def view (M:Mem):D->D
 | .cell k => match M[k]? with
   |some h=>.lst h
   |none=>.cell k
 |.frz h=>.lst h
 |d=>d
noncomputable def bE:Nat->Mem->D->D
 |0,_,d=>d
 | n + 1, M, .cell k => match M[k]? with
   |some h=>.lst (h.map (bE n M))
   |none=>.cell k
 |n+1,M,.frz h=>.lst (h.map (bE n M))
 |n+1,M,.lst h=>.lst (h.map (bE n M))
 |n+1,M,.tup h=>.tup (h.map (bE n M))
 |_+1,_,d=>d
def lh (M:Mem)(a b:D):Option Bool:=match m7 (view M a) (view M b) with
 |some r=>some r
 |none=>m7 (bE 64 M a) (bE 64 M b)
def jE (M:Mem):D->Option Bool
 |.non=>some false
 |.bl b=>some b
 |.int i=>some (i != 0)
 |.str x=>if x.cps.size<=sz then some (x.cps.size != 0) else none
 |.tup ds=>some (!ds.isEmpty)
 |.lst ds=>some (!ds.isEmpty)
 |.frz ds=>some (!ds.isEmpty)
 |.cell k=>(M[k]?).map λds=>!ds.isEmpty
 |.fn _=>none
 |.exc _ _=>none
def b6 (n:Nat)(i:Int):Option Nat:=if 0<=i then(if i<n then some i.toNat else none) else if -(n:Int)<=i then some (i+n).toNat else none
def gg (m:Bool)(o:rB)(a b:D)(M:Mem):Res D:=match o,a,b with
 |.add,.int i,.int j=>.ok (.int (i+j)) M
 |.add,.str x,.str y=>if x.cps.size+y.cps.size<=sz then .ok (.str {x.cps++y.cps}) M else .bad
 |.add,.tup x,.tup y=>kv (x++y) M
 | .add, a, b => match iY M a, iY M b with
   |some x,some y=>a7 m (x++y) M
   |_,_=>.bad
 |.sub,.int i,.int j=>.ok (.int (i-j)) M
 |.mul,.int i,.int j=>if (-(2^64)<i/\i<2^64)\/(-(2^64)<j/\j<2^64) then .ok (.int (i*j)) M else .bad
 |.mul,.tup x,.int j=>if x.length*j.toNat<=sz/\-(2^63)<=j/\j<2^63 then .ok (.tup (List.replicate j.toNat x).flatten) M else .bad
 | .mul, a, .int j => match iY M a with
   |some x=>if x.length*j.toNat<=sz/\-(2^63)<=j/\j<2^63 then a7 m (List.replicate j.toNat x).flatten M else .bad
   |none=>.bad
 |.fdiv,.int i,.int j=>if 0<j/\j<1073741824 then .ok (.int (i / j)) M else .bad
 |.mod,.int i,.int j=>if 0<j then .ok (.int (i % j)) M else .bad
 |.pow,.int i,.int j=>if 0<=j/\j<=1000000/\i.natAbs<2^64 then .ok (.int (i^j.toNat)) M else .bad
 |_,_,_=>.bad
def tU (x:D)(ds:List D):Option Bool:=if aj 64 x&&ds.all (aj 63) then some (ds.any λy=>bW y x) else none
noncomputable def yt (x y:Str):Bool:=!(Builtin.Str.occurrences y x 0 y.length 1).isEmpty
noncomputable def intsOf:List D->Option (List Int)
 |[]=>some []
 |.int b::r=>(intsOf r).map (b::·)
 |_=>none
def lO:D->Option (List Int)
 |.tup h=>intsOf h
 |_=>none
def jo:List D->Option (List (List Int))
 |[]=>some []
 |d::r=>(lO d).bind λk=>(jo r).map (k::·)
def pZ:D->Option (List (List Int))
 |.tup h=>jo h
 |_=>none
def isKey (c:Int)(d:D):Bool:=if c=77 then(lO d).isSome else if c=78 then(pZ d).isSome else false
def c4 (M:Mem)(o:Nat):Option (Int×List D):=if 5000<=o then(match M[o-5000]? with
 |some (.int c::es)=>if c=77\/c=78 then some (c,es) else none
 |_=>none) else none
noncomputable def xm:D->D
 |.tup [k,_]=>k
 |d=>d
noncomputable def Oi:D->D
 |.tup [_,v]=>v
 |d=>d
def dv (es:List D)(k:D):Option D:=(es.find? λe=>bW (xm e) k).map Oi
def putD (es:List D)(k v:D):List D:=if (dv es k).isSome then es.map (λe=>if bW (xm e) k then .tup [xm e,v] else e) else es++[.tup [k,v]]
def inD (M:Mem)(o:Nat)(k:D):Option Bool:=(c4 M o).bind λq=>if isKey q.1 k then some (dv q.2 k).isSome else none
def getD (M:Mem)(o:Nat)(k:D):Option D:=(c4 M o).bind λq=>if isKey q.1 k then dv q.2 k else none
noncomputable def w9:D->Bool
 |.non=>true
 |_=>false
def bB (o:jC)(a b:D)(M:Mem):Option Bool:=match o,a,b with
 |.eq,a,b=>lh M a b
 |.ne,a,b=>(lh M a b).map (!·)
 |.lt,.int i,.int j=>some (decide (i<j))
 |.le,.int i,.int j=>some (decide (i<=j))
 |.gt,.int i,.int j=>some (decide (j<i))
 |.ge,.int i,.int j=>some (decide (j<=i))
 |.isN,a,.non=>some (w9 a)
 |.notN,a,.non=>some (!w9 a)
 |.isin,.str x,.str y=>some (yt x y)
 |.notin,.str x,.str y=>some (!yt x y)
 |.isin,a,b=>(bR M b).bind (tU (view M a))
 |.notin,a,b=>((bR M b).bind (tU (view M a))).map (!·)
 |_,_,_=>none
def da (a i:D)(M:Mem):Option D:=match a,i with
 |.str x,.int i=>if x.cps.size<=sz then(b6 x.cps.size i).bind λj=>(x.cps[j]?).map λc=>.str {#[c]} else none
 |a,.int i=>(bR M a).bind λh=>(b6 h.length i).bind λj=>h[j]?
 |_,_=>none
noncomputable def aK (n d:Nat):D->Option Nat
 |.non=>some d
 |.int v=>some (if v<0 then(v+(n:Int)).toNat else min v.toNat n)
 |_=>none
noncomputable def d4:Bool->D->Bool
 |true,.int _=>true
 |false,.non=>true
 |_,_=>false
noncomputable def cut {h:Type}(xs:List h)(lo hi:Nat):List h:=(xs.drop lo).take (hi-lo)
def cQ (m:Bool)(a lo hi:D)(M:Mem):Res D:=match a with
 | .tup xs => match aK xs.length 0 lo, aK xs.length xs.length hi with
   |some l,some h=>.ok (.tup (cut xs l h)) M
   |_,_=>.bad
 | a => match d3 M a with
   | some xs => match aK xs.length 0 lo, aK xs.length xs.length hi with
     |some l,some h=>a7 m (cut xs l h) M
     |_,_=>.bad
   |none=>.bad
def fY (t:Ty):D->Option Bool
 |.non=>some false
 |.bl _=>some (t==.bool||t==.int)
 |.int _=>some (t==.int)
 |.str _=>some (t==.str)
 |.tup _=>some (t==.tuple)
 |.lst _=>some (t==.list)
 |.frz _=>some (t==.list)
 |.cell _=>some (t==.list)
 |.fn _=>none
 |.exc _ _=>none
noncomputable def boolsOf:List D->Option (List Bool)
 |[]=>some []
 |.bl b::r=>(boolsOf r).map (b::·)
 |_=>none
def ee (f:wh)(ds:List D)(M:Mem):Res D:=match f,ds with
 |.len,[.str x]=>if x.cps.size<=sz then .ok (.int x.cps.size) M else .bad
 | .len, [d] => match bR M d with
   |some xs=>.ok (.int xs.length) M
   |none=>.bad
 |.tuple,[.tup xs]=>.ok (.tup xs) M
 | .tuple, [d] => match d3 M d with
   |some xs=>.ok (.tup xs) M
   |none=>.bad
 | .list m, [d] => match bR M d with
   |some xs=>a7 m xs M
   |none=>.bad
 |.listR m,[.int n]=>if n<2^20 then a7 m ((List.range n.toNat).map λ(k:Nat)=>D.int (k:Int)) M else .bad
 | .all, [d] => match d3 M d with
   | some xs => match boolsOf xs with
     |some bs=>.ok (.bl (bs.all id)) M
     |none=>.bad
   |none=>.bad
 | .sum, [d] => match d3 M d with
   | some xs => match intsOf xs with
     |some is=>.ok (.int is.sum) M
     |none=>.bad
   |none=>.bad
 |_,_=>.bad
noncomputable def cg:List Nat->List D->Env->Option Env
 |[],[],h=>some h
 |i::l,d::ds,h=>cg l ds (h.set i (some d))
 |_,_,_=>none
def bV (t:fg)(d:D)(Z:Env):Option Env:=match t,d with
 |.one i,d=>some (Z.set i (some d))
 |.tup l,.tup h=>cg l h Z
 |.two i l,.tup [d,.tup h]=>cg l h (Z.set i (some d))
 |.tup _,_=>none
 |.two _ _,_=>none
abbrev Walk:=Mem->Option (List D)
noncomputable def dN:Nat->List D->List D
 |_,[]=>[]
 |k,d::r=>.tup [.int k,d]::dN (k+1) r
noncomputable def eV:List D->List D->List D->List D
 |a::r,b::t,c::q=>.tup [a,b,c]::eV r t q
 |_,_,_=>[]
def fx {h:Type}(f:h->D->Mem->Res h)(w:Walk):Nat->Nat->h->Mem->Res h
 |0,_,_,_=>.bad
 | n + 1, i, a, M => match w M with
   |none=>.bad
   | some j => match j[i]? with
     |none=>.ok a M
     |some d=>(f a d M).bind (fx f w n (i+1))
def c6 {h:Type}(f:h->D->Mem->Res h)(w:Walk)(a:h)(M:Mem):Res h:=fx f w (((w M).getD []).length+1) 0 a M
noncomputable def bL {h:Type}(M:Mem):Option h->Res h
 |some a=>.ok a M
 |none=>.bad
@[simp] theorem ND {h:Type}(M:Mem)(a:h):bL M (some a)=.ok a M:=rfl
@[simp] theorem NF {h:Type}(M:Mem):(bL M none:Res h)=.bad:=rfl
inductive Fl where
 |next (Z:Env)
 |ret (d:D)
 |exc (x:D) (Z:Env)
def Ml {a b:Int}:bW (.int a) (.int b)=(a==b):=rfl
end LD
namespace LD
open PySem PySem.Spec PyProof.Rows L2
structure Mu where
 pub:Nat->Option Addr
 priv:List Addr
 ob:Nat->Option Addr
def Mu.Mt (μ:Mu)(a:Addr):Prop:=(∃k,μ.pub k=some a)\/a∈μ.priv
abbrev Fa:=Nat->Option Addr
def KL (K:OU)(a:Addr)(xs:List V):Prop:=
 ∃(o:Obj) (h:Array OX) (n:Nat),K.lookup a=some o/\o.cls=.type "list"/\o.dict=none/\o.data=.seq h n/\h.size<=sizeLine/\Vals xs h.toList
def XAt (C:Addr)(u:Option Addr)(a:Addr)(h:Heap):Prop:=∃o j,h.get? a=some o/\o.cls=.ref C/\o.dict=u/\o.data=.fields j/\1<j.size
noncomputable def Au (c:Nat):Str:=if c=1 then "number" else "place"
def uJ (H:Hp)(c:Nat)(h:Option Addr):Option Int->Prop
 |none=>h=none
 |some i=>∃d,h=some d/\H d=some (.xd [(Au c,.int i)])
def ft (c:Nat):Nat:=1000+c
def fj (c:Nat):Nat:=900+c
section
variable(fa:Fa)(K:OU)(μ:Mu)(H:Hp)
mutual
def Rep:D->V->Prop
 |.non,v=>v=.non
 |.bl b,v=>v=.bl b
 |.int i,v=>v=.int i
 |.str x,v=>v=.str x
 |.tup j,v=>∃a h,v=.ref a/\dD K H a h/\aB j h
 |.lst j,v=>∃a h,v=.ref a/\(H a=some (.lst h)/\¬ μ.Mt a)/\aB j h
 |.frz j,v=>∃a h,v=.ref a/\((∃ob,H a=some (.frz ob (.lst h)))\/KL K a h)/\aB j h
 |.cell k,v=>∃a,v=.ref a/\μ.pub k=some a
 |.fn f,v=>∃a,v=.ref a/\(fa f=some a\/(fa f=none/\μ.ob f=some a))
 |.exc c p,v=>∃a C u,v=.ref a/\fa (ft c)=some C/\H a=some (.ext (XAt C u a))/\uJ H c u p
def aB:List D->List V->Prop
 |[],h=>h=[]
 |d::ds,h=>∃v r,h=v::r/\Rep d v/\aB ds r
end
end
def IsX (o:HO):Prop:=(∃h,o=.ext h)\/∃fs,o=.xd fs
structure ExtW (μ:Mu) (H:Hp) (μ':Mu) (H':Hp):Prop where
 mu:∀k a,μ.pub k=some a->μ'.pub k=some a
 tups:∀a vs,Rd H a (.tup vs)->Rd H' a (.tup vs)
 lsts:∀a vs,H a=some (.lst vs)->¬ μ.Mt a->H' a=some (.lst vs)/\¬ μ'.Mt a
 frzs:∀a ob u,H a=some (.frz ob u)->H' a=some (.frz ob u)
 exts:∀a o,IsX o->H a=some o->H' a=some o
 obs:∀k a,μ.ob k=some a->μ'.ob k=some a
structure Ext (μ:Mu) (H:Hp) (μ':Mu) (H':Hp):Prop extends ExtW μ H μ' H' where
 pr:μ'.priv=μ.priv
 pk:∀a∈μ.priv,H' a=H a
def ExtW.refl:ExtW μ H μ H:={λ_ _ h=>h,λ_ _ h=>h,λ_ _ h n=>⟨h,n⟩,λ_ _ _ h=>h,λ_ _ _ h=>h,λ_ _ h=>h}
def ExtW.trans (a:ExtW μ H μ1 H1)(b:ExtW μ1 H1 μ2 H2):ExtW μ H μ2 H2:=
 {λk x h=>b.mu k x (a.mu k x h),λx j h=>b.tups x j (a.tups x j h),λx j h n=>b.lsts x j (a.lsts x j h n).1 (a.lsts x j h n).2,λx ob u h=>b.frzs x ob u (a.frzs x ob u h),λx o i h=>b.exts x o i (a.exts x o i h),λk x h=>b.obs k x (a.obs k x h)}
def Ext.refl:Ext μ H μ H:={.refl,rfl,λ_ _=>rfl}
def Ext.trans (a:Ext μ H μ1 H1)(b:Ext μ1 H1 μ2 H2):Ext μ H μ2 H2:=
 {a.toExtW.trans b.toExtW,b.pr.trans a.pr,λx h=>(b.pk x (by rw[a.pr];exact h)).trans (a.pk x h)}
section
variable{fa:Fa}{K:OU}{μ μ':Mu}{H H':Hp}
def ExtW.sqT (x:ExtW μ H μ' H')(h:dD K H a vs):dD K H' a vs:=h.elim (λz=>.inl (x.tups a vs z)) .inr
mutual
def Rep.extW (x:ExtW μ H μ' H'):∀{d:D}{v:V},Rep fa K μ H d v->Rep fa K μ' H' d v
 |.non,v,h=>h
 |.bl b,v,h=>h
 |.int i,v,h=>h
 |.str y,v,h=>h
 | .tup u, v, h => by
   obtain⟨a,j,e,s,r⟩:=h;exact{a,j,e,x.sqT s,aB.extW x r}
 | .lst u, v, h => by
   obtain⟨a,j,e,s,r⟩:=h;exact{a,j,e,x.lsts a j s.1 s.2,aB.extW x r}
 | .frz u, v, h => by
   obtain⟨a,j,e,s,r⟩:=h;exact{a,j,e,s.elim (λ⟨ob,z⟩=>.inl {ob,x.frzs a ob _ z}) .inr,aB.extW x r}
 | .cell k, v, h => by
   obtain⟨a,e,m⟩:=h;exact{a,e,x.mu k a m}
 | .fn f, v, h => by
   obtain⟨a,e,m⟩:=h;exact{a,e,m.imp id λz=>{z.1,x.obs _ _ z.2}}
 | .exc c p, v, h => by
   obtain⟨a,C,B,e,f,g,n⟩:=h;refine{a,C,B,e,f,x.exts _ _ (.inl {_,rfl}) g,?_};cases p with
   |none=>exact n
   |some i=>exact let⟨d,h1,h2⟩:=n;{d,h1,x.exts _ _ (.inr {_,rfl}) h2}
def aB.extW (x:ExtW μ H μ' H'):∀{ds:List D}{vs:List V},aB fa K μ H ds vs->aB fa K μ' H' ds vs
 |[],vs,h=>h
 | d :: ds, vs, h => by
   obtain⟨v,r,e,p,q⟩:=h;exact{v,r,e,Rep.extW x p,aB.extW x q}
end
def Rep.ext (x:Ext μ H μ' H')(h:Rep fa K μ H d v):Rep fa K μ' H' d v:=Rep.extW x.toExtW h
def aB.ext (x:Ext μ H μ' H')(h:aB fa K μ H d v):aB fa K μ' H' d v:=aB.extW x.toExtW h
def aB.length:∀{ds:List D}{vs:List V},aB fa K μ H ds vs->vs.length=ds.length
 | [], vs, h => by
   subst h;rfl
 | d :: ds, vs, h => by
   obtain⟨v,r,e,p,q⟩:=h;subst e;simp[aB.length q]
def aB.get:∀{ds:List D}{vs:List V}{i:Nat}{d:D},aB fa K μ H ds vs->ds[i]?=some d->∃v,vs[i]?=some v/\Rep fa K μ H d v
 |[],_,_,_,_,e=>by simp at e
 | d :: ds, vs, 0, j, h, e => by
   obtain⟨v,r,rfl,p,q⟩:=h;simp at e;subst e;exact⟨v,rfl,p⟩
 | d :: ds, vs, i + 1, j, h, e => by
   obtain⟨v,r,rfl,p,q⟩:=h;obtain⟨u,h1,h2⟩:=aB.get q (by simpa using e)
   exact{u,by simpa using h1,h2}
def aB.getV:∀{ds:List D}{vs:List V}{i:Nat}{v:V},aB fa K μ H ds vs->vs[i]?=some v->∃d,ds[i]?=some d/\Rep fa K μ H d v:=by
 intro ds vs i v h e;have hl:=h.length;have j:i<vs.length:=(OV.mp e).1;obtain⟨d,hd⟩:∃d,ds[i]?=some d:={ds[i]'(`a),`s}
 obtain⟨u,h1,h2⟩:=h.get hd;rw[e] at h1;cases h1;exact⟨d,hd,h2⟩
def aB.append:∀{ds es:List D}{vs ws:List V},aB fa K μ H ds vs->aB fa K μ H es ws->aB fa K μ H (ds++es) (vs++ws)
 | [], _, vs, _, h, g => by
   subst h;exact g
 | d :: ds, es, vs, ws, h, g => by
   obtain⟨v,r,rfl,p,q⟩:=h;exact{v,r++ws,rfl,p,aB.append q g}
def aB.one (h:Rep fa K μ H d v):aB fa K μ H [d] [v]:={v,[],rfl,h,rfl}
def aB.drop:∀(n:Nat) {ds:List D}{vs:List V},aB fa K μ H ds vs->aB fa K μ H (ds.drop n) (vs.drop n)
 |0,_,_,h=>h
 | n + 1, [], vs, h => by
   subst h;exact rfl
 | n + 1, d :: ds, vs, h => by
   obtain⟨v,r,rfl,p,q⟩:=h;exact aB.drop n q
def aB.take:∀(n:Nat) {ds:List D}{vs:List V},aB fa K μ H ds vs->aB fa K μ H (ds.take n) (vs.take n)
 |0,_,_,h=>rfl
 | n + 1, [], vs, h => by
   subst h;exact rfl
 | n + 1, d :: ds, vs, h => by
   obtain⟨v,r,rfl,p,q⟩:=h;exact{v,r.take n,rfl,p,aB.take n q}
def aB.set:∀(n:Nat) {ds:List D}{vs:List V}{d:D}{v:V},aB fa K μ H ds vs->Rep fa K μ H d v->aB fa K μ H (ds.set n d) (vs.set n v)
 | _, [], vs, _, _, h, _ => by
   subst h;exact rfl
 | 0, d :: ds, vs, _, j, h, g => by
   obtain⟨v,r,rfl,p,q⟩:=h;exact⟨j,r,rfl,g,q⟩
 | n + 1, d :: ds, vs, _, j, h, g => by
   obtain⟨v,r,rfl,p,q⟩:=h;exact{v,r.set n j,rfl,p,aB.set n q g}
def aB.rep:∀(n:Nat) {ds:List D}{vs:List V},aB fa K μ H ds vs->aB fa K μ H (List.replicate n ds).flatten (List.replicate n vs).flatten
 |0,_,_,_=>rfl
 | n + 1, ds, vs, h => by
   rw[QL,QL,Rb,Rb];exact h.append (aB.rep n h)
def aB.ints:∀(ns:List Int),aB fa K μ H (ns.map D.int) (ns.map V.int)
 |[]=>rfl
 |n::ns=>{.int n,ns.map V.int,rfl,rfl,aB.ints ns}
end
noncomputable def b4:Nat->List Str
 |40=>["machine","standing","earlier"]
 |_=>[]
def au (k:Nat):Nat:=5000+k
noncomputable def DK (ks:List Int):Int:=reduceHash (Builtin.Tuple.tupleHashOf (ks.map hashInt))
noncomputable def Lu (h:List (List Int)):Int:=reduceHash (Builtin.Tuple.tupleHashOf (h.map DK))
def mE (c:Int)(d:D):Option Int:=if c=77 then(lO d).map DK else if c=78 then(pZ d).map Lu else none
def Co (fa:Fa)(K:OU)(μ:Mu)(H:Hp)(c:Int)(p:D×D)(e:QN):Prop:=∃b v,e.key=.ref b/\mE c p.1=some e.hash/\Rep fa K μ H p.1 (.ref b)/\RelV v e.val/\Rep fa K μ H p.2 v
def jc (fa:Fa)(K:OU)(μ:Mu)(H:Hp)(a:Addr)(ds:List D):Prop:=
 (∃(c:Nat) (C u:Addr) (fs:List (Str×V)) (j:List D),fa (fj c)=some C/\H a=some (.ins C u fs)/\fs.map (·.1)=(b4 c).take fs.length/\ds=.int c::j/\aB fa K μ H j (fs.map (·.2)))\/
 ∃(c:Int) (j:List QN) (h:List (D×D)),H a=some (.dn j)/\(c=77\/c=78)/\ds=.int c::h.map (λp=>.tup [p.1,p.2])/\QT (Co fa K μ H c) h j/\(h.map (·.1)).Nodup
def jc.extW {fa:Fa}{K:OU}{μ μ':Mu}{H H':Hp}{a:Addr}{ds:List D}(h:jc fa K μ H a ds)(x:ExtW μ H μ' H')(e:H' a=H a):jc fa K μ' H' a ds:=
 h.imp (λ⟨c,C,z,fs,j,h1,h2,h3,h4,u⟩=>{c,C,z,fs,j,h1,e.trans h2,h3,h4,u.extW x})
  λ⟨c,j,y,h1,h2,h3,h4,u⟩=>{c,j,y,e.trans h1,h2,h3,QT.mapP h4 λp q ⟨b,v,e1,e2,B,E,F⟩=>{b,v,e1,e2,B.extW x,E,F.extW x},u}
def jc.hold {fa:Fa}{K:OU}{μ:Mu}{H:Hp}{a:Addr}{ds:List D}(h:jc fa K μ H a ds):∃o,H a=some o/\(∀vs,o≠.lst vs):=by
 rcases h with⟨_,_,_,_,_,_,h,_⟩|⟨_,_,_,h,_⟩
 ·exact{_,h,λ_ z=>by cases z}
 ·exact{_,h,λ_ z=>by cases z}
def jc.new {fa:Fa}{K:OU}{μ:Mu}{H:Hp}{a p:Addr}{ds:List D}(h:jc fa K μ H a ds)(j:H p=none):a≠p:=let{_,e,_}:=h.hold;aO e j
def jc.nl {fa:Fa}{K:OU}{μ:Mu}{H:Hp}{a p:Addr}{ds:List D}{vs:List V}(h:jc fa K μ H a ds)(j:H p=some (.lst vs)):a≠p:=λz=>by
 obtain⟨o,e,n⟩:=h.hold;rw[z,j] at e;cases e;exact n _ rfl
def Mv (fa:Fa)(K:OU)(μ:Mu)(H:Hp)(k:Nat)(ds:List D):Prop:=
 (∃a h,μ.pub k=some a/\H a=some (.lst h)/\aB fa K μ H ds h)\/∃a,μ.ob (au k)=some a/\μ.pub k=none/\jc fa K μ H a ds
structure RelM (fa:Fa) (K:OU) (μ:Mu) (H:Hp) (M:Mem):Prop where
 at':∀(k:Nat) (ds:List D),M[k]?=some ds->Mv fa K μ H k ds
 out:∀(k:Nat),M.length<=k->μ.pub k=none
 oout:∀(k:Nat),M.length<=k->μ.ob (au k)=none
 inj:∀j k a,μ.pub j=some a->μ.pub k=some a->j=k
 oinj:∀j k a,μ.ob (au j)=some a->μ.ob (au k)=some a->j=k
 sep:∀k a,μ.pub k=some a->μ.ob (au k)=none
 pv:∀a∈μ.priv,(∃vs,H a=some (.lst vs))/\∀k,μ.pub k≠some a
structure bb (fa:Fa) (K:OU) (μ:Mu) (H:Hp) (σ:L2.St) (Z:Env):Prop where
 len:σ.length=Z.length
 at':∀(i:Nat) (d:D),Z[i]?=some (some d)->∃v,σ[i]?=some (some v)/\Rep fa K μ H d v
section
variable{fa:Fa}{K:OU}{μ μ':Mu}{H H':Hp}{σ:L2.St}{Z:Env}{M:Mem}
def bb.ext (h:bb fa K μ H σ Z)(x:Ext μ H μ' H'):bb fa K μ' H' σ Z:=
 {h.len,λi d e=>let⟨v,h1,h2⟩:=h.at' i d e;{v,h1,h2.ext x}}
def bb.set (h:bb fa K μ H σ Z){i:Nat}{d:D}{v:V}(r:Rep fa K μ H d v):bb fa K μ H (σ.set i (some v)) (Z.set i (some d)):=by
 refine{by simp[h.len],λj z e=>?_}
 by_cases y:j=i
 ·subst y;have hl:j<Z.length:=by
   have:=(OV.mp e).1;simpa using this
  rw[Py hl] at e;cases e;exact{v,Py (by rw[h.len];exact hl),r}
 ·rw[O5 (Qk y)] at e;obtain⟨u,h1,h2⟩:=h.at' j z e;exact{u,by rw[O5 (Qk y)];exact h1,h2}
def bb.extW (h:bb fa K μ H σ Z)(x:ExtW μ H μ' H'):bb fa K μ' H' σ Z:=
 {h.len,λi d e=>let⟨v,h1,h2⟩:=h.at' i d e;{v,h1,h2.extW x}}
def RelM.mu_lt (h:RelM fa K μ H M)(e:μ.pub k=some a):∃ds vs,M[k]?=some ds/\H a=some (.lst vs)/\aB fa K μ H ds vs:=by
 by_cases hk:k<M.length
 ·rcases h.at' k M[k] (by simp[hk]) with⟨j,vs,h1,h2,h3⟩|⟨_,_,z,_⟩
  ·rw[e] at h1;cases h1;exact{_,vs,by simp[hk],h2,h3}
  ·rw[e] at z;cases z
 ·rw[h.out k `a] at e;cases e
def RelM.at_ (h:RelM fa K μ H M)(e:M[k]?=some ds)(p:μ.pub k=some a):∃vs,H a=some (.lst vs)/\aB fa K μ H ds vs:=by
 obtain⟨j,vs,h1,h2,h3⟩:=h.mu_lt p;rw[e] at h1;cases h1;exact⟨vs,h2,h3⟩
def RelM.fresh (h:RelM fa K μ H M)(j:H p=none):¬ μ.Mt p:=λe=>by
 rcases e with⟨k,e⟩|e
 ·obtain⟨v,u,_,h2,_⟩:=h.mu_lt e;rw[j] at h2;cases h2
 ·obtain⟨⟨u,h2⟩,_⟩:=h.pv p e;rw[j] at h2;cases h2
def RelM.pne (h:RelM fa K μ H M)(u:H p=none)(j:a∈μ.priv):a≠p:=λe=>by
 obtain⟨⟨v,h2⟩,_⟩:=h.pv a j;rw[e,u] at h2;cases h2
def Ext.alloc (h:RelM fa K μ H M)(j:H p=none):Ext μ H μ (upd H p o):=by
 have rd:∀a u,Rd H a u->Rd (upd H p o) a u:=λa u h=>by
  rcases h with h|⟨ob,h⟩
  ·exact .inl (by rw[ao (aO h j)];exact h)
  ·exact .inr {ob,by rw[ao (aO h j)];exact h}
 exact{{λ_ _ h=>h,λa y h=>rd a _ h,λa y h n=>{by rw[ao (aO h j)];exact h,n},λa ob u h=>by rw[ao (aO h j)];exact h,λa o _ h=>by rw[ao (aO h j)];exact h,λ_ _ h=>h},rfl,λa v=>by rw[ao (h.pne j v)]}
def RelM.alloc (h:RelM fa K μ H M)(j:H p=none):RelM fa K μ (upd H p o) M:=
 {λk y e=>(h.at' k y e).imp (λ⟨a,v,h1,h2,h3⟩=>{a,v,h1,by rw[ao (aO h2 j)];exact h2,h3.ext (Ext.alloc h j)}) λ⟨a,h1,h2,h3⟩=>{a,h1,h2,h3.extW (Ext.alloc h j).toExtW (ao (h3.new j))},h.out,h.oout,h.inj,h.oinj,h.sep,λa u=>{let{⟨v,e⟩,_}:=h.pv a u;{v,by rw[ao (h.pne j u)];exact e},(h.pv a u).2}}
noncomputable def eZ (μ:Mu)(n:Nat)(p:Addr):Mu:={λk=>if k=n then some p else μ.pub k,μ.priv,μ.ob}
set_option tactic.hygienic true in
def Ext.cell (h:RelM fa K μ H M)(j:H p=none):Ext μ H (eZ μ M.length p) (upd H p o):=by
 have rd:∀a u,Rd H a u->Rd (upd H p o) a u:=λa u h=>by
  rcases h with h|⟨ob,h⟩
  ·exact .inl (by rw[ao (aO h j)];exact h)
  ·exact .inr {ob,by rw[ao (aO h j)];exact h}
 refine{{λk a e=>?_,λa y g=>rd a _ g,λa y g n=>{by rw[ao (aO g j)];exact g,λe=>?_},λa ob u h=>by rw[ao (aO h j)];exact h,λa o _ h=>by rw[ao (aO h j)];exact h,λ_ _ h=>h},rfl,λa v=>by rw[ao (h.pne j v)]}
 ·show(if k=M.length then some p else μ.pub k)=some a;split
  ·next q=>rw[q,h.out _ (OZ _)] at e;cases e
  ·exact e
 ·rcases e with⟨k,e⟩|e
  ·have e:(if k=M.length then some p else μ.pub k)=some a:=e;split at e
   ·cases e;exact aO g j rfl
   ·exact n (.inl ⟨k,e⟩)
  ·exact n (.inr e)
set_option tactic.hygienic true in
def RelM.cell (h:RelM fa K μ H M){p:Addr}{ds:List D}{vs:List V}(u:H p=none)(r:aB fa K μ H ds vs) :
 RelM fa K (eZ μ M.length p) (upd H p (.lst vs)) (M++[ds]):=by
 have x:Ext μ H (eZ μ M.length p) (upd H p (.lst vs)):=Ext.cell h u;have F:=h.fresh u;refine{λk v e=>?_,λk hk=>?_,λk hk=>h.oout k (by simp at hk;omega),λj k a h1 h2=>?_,h.oinj,λk a z=>?_,λa y=>?_}
 ·by_cases hk:k<M.length
  ·rw[O4 hk] at e;rcases h.at' k v e with⟨a,E,h1,h2,h3⟩|⟨a,h1,h2,h3⟩
   ·exact .inl {a,E,x.mu k a h1,by rw[ao (aO h2 u)];exact h2,h3.ext x}
   ·exact .inr {a,h1,by show(if k=M.length then some p else μ.pub k)=none;rw[if_neg (Pu hk)];exact h2,h3.extW x.toExtW (ao (h3.new u))}
  ·have B:k=M.length:=by
    have:=(OV.mp e).1;simp at this;omega
   subst B;rw[Pp (OZ _)] at e;simp at e;subst e;exact .inl {p,vs,by simp[eZ],bH,r.ext x}
 ·simp at hk;show(if k=M.length then some p else μ.pub k)=none;rw[if_neg `a]
  exact h.out k `a
 ·have h1:(if j=M.length then some p else μ.pub j)=some a:=h1;have h2:(if k=M.length then some p else μ.pub k)=some a:=h2;split at h1<;>split at h2
  ·omega
  ·cases h1;exact absurd (.inl ⟨k,h2⟩) F
  ·cases h2;exact absurd (.inl ⟨j,h1⟩) F
  ·exact h.inj j k a h1 h2
 ·have z:(if k=M.length then some p else μ.pub k)=some a:=z;show μ.ob (au k)=none;split at z
  ·next e=>rw[e];exact h.oout _ (OZ _)
  ·exact h.sep k a z
 ·obtain⟨⟨E,e⟩,n⟩:=h.pv a y;refine{{E,by rw[ao (h.pne u y)];exact e},λk e2=>?_}
  have e2:(if k=M.length then some p else μ.pub k)=some a:=e2;split at e2
  ·cases e2;exact h.pne u y rfl
  ·exact n k e2
def ExtW.write (h2:H a=some (.lst vs))(e:μ.Mt a):ExtW μ H μ (upd H a (.lst ws)):=by
 have ne:∀b u,Rd H b u->(∀xs,u≠.lst xs)->b≠a:=λb u g j q=>by
  subst q;rcases g with g|⟨ob,g⟩
  ·rw[h2] at g;cases g;exact j _ rfl
  ·rw[h2] at g;cases g
 have rd:∀b u,b≠a->Rd H b u->Rd (upd H a (.lst ws)) b u:=λb u h g=>by
  rcases g with g|⟨ob,g⟩
  ·exact .inl (by rw[ao h];exact g)
  ·exact .inr {ob,by rw[ao h];exact g}
 exact{λ_ _ q=>q,λb v g=>rd b _ (ne b _ g (λxs q=>by cases q)) g,λb v g n=>{by rw[ao (λq=>n (by rw[q];exact e))];exact g,n},λb ob u g=>by rw[ao (λq=>by rw[q,h2] at g;cases g)];exact g,λb o i g=>by rw[ao (λq=>by rw[q,h2] at g;cases g;rcases i with⟨_,i⟩|⟨_,i⟩<;>cases i)];exact g,λ_ _ q=>q}
def Ext.write {k:Nat}{a:Addr}{vs ws:List V}(h:RelM fa K μ H M)(e:μ.pub k=some a):Ext μ H μ (upd H a (.lst ws)):=by
 obtain⟨u,vs,_,h2,_⟩:=h.mu_lt e;exact{ExtW.write h2 (.inl ⟨k,e⟩),rfl,λb j=>by rw[ao (λq=>(h.pv b j).2 k (by rw[q];exact e))]}
def RelM.write (h:RelM fa K μ H M){k:Nat}{a:Addr}{ds:List D}{ws:List V}(e:μ.pub k=some a)(r:aB fa K μ H ds ws):RelM fa K μ (upd H a (.lst ws)) (M.set k ds):=by
 have x:Ext μ H μ (upd H a (.lst ws)):=Ext.write (vs:=ws) h e;refine{λj y q=>?_,λj u=>h.out j (by simpa using u),λj u=>h.oout j (by simpa using u),h.inj,h.oinj,h.sep,λb v=>{let{⟨vs,g⟩,_}:=h.pv b v;{vs,by rw[x.pk b v];exact g},(h.pv b v).2}}
 by_cases u:j=k
 ·subst u;have hl:j<M.length:=by have:=(OV.mp q).1;simpa using this
  rw[Py hl] at q;cases q;exact .inl {a,ws,e,bH,r.ext x}
 ·rw[O5 (Qk u)] at q;rcases h.at' j y q with⟨b,vs,h1,h2,h3⟩|⟨b,h1,h2,h3⟩
  ·have B:b≠a:=λz=>u (h.inj j k a (z ▸ h1) e);exact .inl {b,vs,h1,by rw[ao B];exact h2,h3.ext x}
  ·obtain⟨_,_,_,hl,_⟩:=h.mu_lt e;exact .inr {b,h1,h2,h3.extW x.toExtW (ao (h3.nl hl))}
end
def ae {h:Type}(r:Res h)(k:h->Mem->Prop):Prop:=match r with
 |.ok a M=>k a M
 |_=>False
def ax {j u:Type}{r:Res j}{f:j->Mem->Res u}{k:u->Mem->Prop}(h:ae (r.bind f) k):∃a M,r=.ok a M/\ae (f a M) k:=by
 cases r with
 |ok a M=>exact⟨a,M,rfl,h⟩
 |err=>exact h.elim
 |bad=>exact h.elim
def iG {j:Type}{M:Mem}{o:Option j}{k:j->Mem->Prop}(h:ae (bL M o) k):∃a,o=some a/\k a M:=by
 cases o with
 |none=>exact h.elim
 |some a=>exact⟨a,rfl,h⟩
def aQ {j:Type}{r:Res j}{k k':j->Mem->Prop}(h:ae r k)(m:∀a M,k a M->k' a M):ae r k':=by
 cases r with
 |ok a M=>exact m a M h
 |err=>exact h
 |bad=>exact h
section
variable(fa:Fa)(K:OU)
def aZ (μ:Mu)(H:Hp)(Q:VK)(d:D)(M':Mem):Prop:=∀v H' μ',Ext μ H μ' H'->RelM fa K μ' H' M'->Rep fa K μ' H' d v->Q v H'
def tE (g:Env->Mem->Res D):TE:=λσ H Q=>∃μ Z M,bb fa K μ H σ Z/\RelM fa K μ H M/\ae (g Z M) (aZ fa K μ H Q)
def tT (g:Env->Mem->Res Bool):TT:=λσ H Q=>∃μ Z M,bb fa K μ H σ Z/\RelM fa K μ H M/\ae (g Z M) λb h=>∀H' μ',Ext μ H μ' H'->RelM fa K μ' H' h->Q b H'
def tA (g:Env->Mem->Res (List D)):TA:=λσ H Q=>∃μ Z M,bb fa K μ H σ Z/\RelM fa K μ H M/\ae (g Z M) λu j=>∀h H' μ',Ext μ H μ' H'->RelM fa K μ' H' j->aB fa K μ' H' u h->Q h H'
end
def mj (New:Addr->Prop)(C:Addr)(v:Option Addr)(a:Addr)(h:Heap)(H:Hp):Prop:=New a/\H a=none/\∃o j,h.get? a=some o/\o.cls=.ref C/\o.dict=v/\o.data=.fields j/\
 (j[1]?=some .none\/∃T u ts,j[1]?=some (.ref T)/\T≠a/\New T/\H T=none/\h.get? T=some u/\u.data=.fields ts/\ts[3]?=some .none)
def xH (X:Cx)(b:Addr):Prop:=X.s₀.heap.get? b=none/\∀p∈X.pn,p.1≠b
def XW (fa:Fa)(X:Cx)(μ:Mu)(H:Hp)(x:D)(Z:Env)(M:Mem):Prop:=∀h j H' μ' u a C v c p,Inv X h j H' u->Ext μ H μ' H'->bb fa X.K μ' H' j Z->RelM fa X.K μ' H' M->x=.exc c p->fa (ft c)=some C->uJ H' c v p->mj (xH X) C v a u.heap H'->X.xe (.ref a) u
def j6 (fa:Fa)(X:Cx)(μ:Mu)(H:Hp)(D:Ends):Fl->Mem->Prop
 |.next h,j=>∀u H' μ',Ext μ H μ' H'->bb fa X.K μ' H' u h->RelM fa X.K μ' H' j->D.nx u H'
 |.ret d,j=>aZ fa X.K μ H D.rt d j
 |.exc x h,j=>XW fa X μ H x h j
def tF (fa:Fa)(X:Cx)(g:Env->Mem->Res Fl):TS:=λD σ H=>∃μ Z M,bb fa X.K μ H σ Z/\RelM fa X.K μ H M/\ae (g Z M) (j6 fa X μ H D)
def XW.ext (h:XW fa X μ H x Z M)(y:Ext μ H μ' H'):XW fa X μ' H' x Z M:=λj v z u s1 a C B c p I e=>h j v z u s1 a C B c p I (y.trans e)
section
variable{fa:Fa}{K:OU}{μ μ':Mu}{H H':Hp}{Q:VK}
def aZ.ext (h:aZ fa K μ H Q d M)(x:Ext μ H μ' H'):aZ fa K μ' H' Q d M:=λv u j y m r=>h v u j (x.trans y) m r
def jR {r:Res D}(h:ae r (aZ fa K μ H Q))(x:Ext μ H μ' H'):ae r (aZ fa K μ' H' Q):=aQ h λ_ _ w=>w.ext x
end
def bq (h:PE X e t)(i:∀σ H Q,t' σ H Q->t σ H Q):PE X e t':=λj s σ H Q I q=>h j s σ H Q I (i σ H Q q)
def jP (h:PT X e t)(i:∀σ H Q,t' σ H Q->t σ H Q):PT X e t':=λj s σ H Q I q=>h j s σ H Q I (i σ H Q q)
def yU (h:PW X e t)(i:∀σ H Q,t' σ H Q->t σ H Q):PW X e t':=λw j s σ H Q I q=>h w j s σ H Q I (i σ H Q q)
def zd (h:PA X e t)(i:∀σ H Q,t' σ H Q->t σ H Q):PA X e t':=λu j s σ H Q I q=>h u j s σ H Q I (i σ H Q q)
def cM (h:PS X e t)(i:∀D σ H,t' D σ H->t D σ H):PS X e t':=λj s σ H D I q=>h j s σ H D I (i D σ H q)
def vg (h:j5 X e t)(i:∀D σ H,t' D σ H->t D σ H):j5 X e t':=λj s σ H D I q=>h j s σ H D I (i D σ H q)
section
variable{fa:Fa}{K:OU}{μ:Mu}{H:Hp}{σ:L2.St}{Z:Env}{M:Mem}
def t1 {g:Env->Mem->Res D}{B:Type}{f:D->Mem->Res B}{P:B->Mem->Prop}{R:V->Hp->Prop}(y:bb fa K μ H σ Z)(E:RelM fa K μ H M)(h:ae ((g Z M).bind f) P)
 (k:∀x M1 v u j,Ext μ H j u->bb fa K j u σ Z->RelM fa K j u M1->Rep fa K j u x v->ae (f x M1) P->R v u):tE fa K g σ H R:=by
 obtain⟨x,M1,e,q⟩:=ax h;refine{μ,Z,M,y,E,?_};rw[e];exact λv u j z F r1=>k x M1 v u j z (y.ext z) F r1 q
def u2 {g:Env->Mem->Res Bool}{z:Type}{f:Bool->Mem->Res z}{P:z->Mem->Prop}{R:Bool->Hp->Prop}(v:bb fa K μ H σ Z)(B:RelM fa K μ H M)(h:ae ((g Z M).bind f) P)
 (k:∀b M1 u j,Ext μ H j u->bb fa K j u σ Z->RelM fa K j u M1->ae (f b M1) P->R b u):tT fa K g σ H R:=by
 obtain⟨b,M1,e,q⟩:=ax h;refine{μ,Z,M,v,B,?_};rw[e];exact λu j y E=>k b M1 u j y (v.ext y) E q
def qB {g:Env->Mem->Res (List D)}{B:Type}{f:List D->Mem->Res B}{P:B->Mem->Prop}{R:List V->Hp->Prop}(y:bb fa K μ H σ Z)(E:RelM fa K μ H M)(h:ae ((g Z M).bind f) P)
 (k:∀ds M1 vs u j,Ext μ H j u->bb fa K j u σ Z->RelM fa K j u M1->aB fa K j u ds vs->ae (f ds M1) P->R vs u):tA fa K g σ H R:=by
 obtain⟨ds,M1,e,q⟩:=ax h;refine{μ,Z,M,y,E,?_};rw[e];exact λv u j z F r1=>k ds M1 v u j z (y.ext z) F r1 q
end
mutual
noncomputable def toPy:D->PyData
 |.non=>.none
 |.bl b=>.bool b
 |.int i=>.int i
 |.str x=>.str x
 |.tup h=>.tuple (cn h)
 |.lst h=>.list (cn h)
 |.frz _=>.none
 |.cell _=>.none
 |.fn _=>.none
 |.exc _ _=>.none
noncomputable def cn:List D->List PyData
 |[]=>[]
 |d::r=>toPy d::cn r
end
def pG:∀(n:Nat) (d:D),aj n d=true->(toPy d).canLay0=true/\(toPy d).depth<=n:=by
 have all:∀(n:Nat),(∀d,aj n d=true->(toPy d).canLay0=true/\(toPy d).depth<=n)->∀j:List D,j.all (aj n)=true->PyData.canLayAll0 (cn j)=true/\PyData.depthAll (cn j)<=n:=by
  intro n h j;induction j with
  |nil=>intro _;simp[cn,PyData.canLayAll0,PyData.depthAll]
  | cons d r u =>
    intro q;simp only[Qb,O3] at q;obtain⟨h1,h2⟩:=h d q.1;obtain⟨h3,h4⟩:=u q.2;simp only[cn,PyData.canLayAll0,PyData.depthAll,h1,h3,Bool.and_self,true_and];omega
 intro n;induction n with
 | zero =>
   intro d h;cases d with
   |str x=>exact{by simpa[toPy,PyData.canLay0,PyData.strOk,aj] using h,by simp[toPy,PyData.depth]}
   |tup _=>simp[aj] at h
   |lst _=>simp[aj] at h
   |frz _=>simp[aj] at h
   |cell _=>simp[aj] at h
   |fn _=>simp[aj] at h
   |exc y p=>simp[aj] at h
   |_=>exact{by simp[toPy,PyData.canLay0],by simp[toPy,PyData.depth]}
 | succ n u =>
   intro d h;cases d with
   |str x=>exact{by simpa[toPy,PyData.canLay0,PyData.strOk,aj] using h,by simp[toPy,PyData.depth]}
   | tup j =>
     obtain⟨h1,h2⟩:=all n u j (by simpa[aj] using h)
     simp only[toPy,PyData.canLay0,PyData.depth,h1,true_and];omega
   | lst j =>
     obtain⟨h1,h2⟩:=all n u j (by simpa[aj] using h)
     simp only[toPy,PyData.canLay0,PyData.depth,h1,true_and];omega
   |frz _=>simp[aj] at h
   |cell _=>simp[aj] at h
   |fn _=>simp[aj] at h
   |exc y p=>simp[aj] at h
   |_=>exact{by simp[toPy,PyData.canLay0],by simp[toPy,PyData.depth]}
def jl (h:aj 64 d=true):SeqAt.shaped (toPy d)=true:=by
 obtain⟨h1,h2⟩:=pG 64 d h;simp[SeqAt.shaped,h1,h2]
mutual
def mK:∀(n m:Nat) (a b:D),aj n a=true->aj m b=true->PyData.eqv (toPy a) (toPy b)=bW a b
 | n, m, .tup a, .tup b, h, j => by
   cases n with
   |zero=>simp[aj] at h
   | succ n =>
     cases m with
     |zero=>simp[aj] at j
     | succ m =>
       exact nR n m a b (by simpa[aj] using h) (by simpa[aj] using j)
 | n, m, .lst a, .lst b, h, j => by
   cases n with
   |zero=>simp[aj] at h
   | succ n =>
     cases m with
     |zero=>simp[aj] at j
     | succ m =>
       exact nR n m a b (by simpa[aj] using h) (by simpa[aj] using j)
 |n,m,.frz _,_,h,j=>by cases n<;>simp[aj] at h
 |n,m,.cell _,_,h,j=>by cases n<;>simp[aj] at h
 |n,m,.fn _,_,h,j=>by cases n<;>simp[aj] at h
 |n,m,.exc _ _,_,h,j=>by cases n<;>simp[aj] at h
 |n,m,_,.frz _,h,j=>by cases m<;>simp[aj] at j
 |n,m,_,.cell _,h,j=>by cases m<;>simp[aj] at j
 |n,m,_,.fn _,h,j=>by cases m<;>simp[aj] at j
 |n,m,_,.exc _ _,h,j=>by cases m<;>simp[aj] at j
 |_,_,.non,.non,_,_=>by first|rfl|simp[toPy,PyData.eqv];rfl
 |_,_,.non,.bl _,_,_=>by first|rfl|simp[toPy,PyData.eqv];rfl
 |_,_,.non,.int _,_,_=>by first|rfl|simp[toPy,PyData.eqv];rfl
 |_,_,.non,.str _,_,_=>by first|rfl|simp[toPy,PyData.eqv];rfl
 |_,_,.non,.tup _,_,_=>by first|rfl|simp[toPy,PyData.eqv];rfl
 |_,_,.non,.lst _,_,_=>by first|rfl|simp[toPy,PyData.eqv];rfl
 |_,_,.bl _,.non,_,_=>by first|rfl|simp[toPy,PyData.eqv];rfl
 |_,_,.bl _,.bl _,_,_=>by first|rfl|simp[toPy,PyData.eqv];rfl
 |_,_,.bl _,.int _,_,_=>by first|rfl|simp[toPy,PyData.eqv];rfl
 |_,_,.bl _,.str _,_,_=>by first|rfl|simp[toPy,PyData.eqv];rfl
 |_,_,.bl _,.tup _,_,_=>by first|rfl|simp[toPy,PyData.eqv];rfl
 |_,_,.bl _,.lst _,_,_=>by first|rfl|simp[toPy,PyData.eqv];rfl
 |_,_,.int _,.non,_,_=>by first|rfl|simp[toPy,PyData.eqv];rfl
 |_,_,.int _,.bl _,_,_=>by first|rfl|simp[toPy,PyData.eqv];rfl
 |_,_,.int _,.int _,_,_=>by first|rfl|simp[toPy,PyData.eqv];rfl
 |_,_,.int _,.str _,_,_=>by first|rfl|simp[toPy,PyData.eqv];rfl
 |_,_,.int _,.tup _,_,_=>by first|rfl|simp[toPy,PyData.eqv];rfl
 |_,_,.int _,.lst _,_,_=>by first|rfl|simp[toPy,PyData.eqv];rfl
 |_,_,.str _,.non,_,_=>by first|rfl|simp[toPy,PyData.eqv];rfl
 |_,_,.str _,.bl _,_,_=>by first|rfl|simp[toPy,PyData.eqv];rfl
 |_,_,.str _,.int _,_,_=>by first|rfl|simp[toPy,PyData.eqv];rfl
 |_,_,.str _,.str _,_,_=>by first|rfl|simp[toPy,PyData.eqv];rfl
 |_,_,.str _,.tup _,_,_=>by first|rfl|simp[toPy,PyData.eqv];rfl
 |_,_,.str _,.lst _,_,_=>by first|rfl|simp[toPy,PyData.eqv];rfl
 |_,_,.tup _,.non,_,_=>by first|rfl|simp[toPy,PyData.eqv];rfl
 |_,_,.tup _,.bl _,_,_=>by first|rfl|simp[toPy,PyData.eqv];rfl
 |_,_,.tup _,.int _,_,_=>by first|rfl|simp[toPy,PyData.eqv];rfl
 |_,_,.tup _,.str _,_,_=>by first|rfl|simp[toPy,PyData.eqv];rfl
 |_,_,.tup _,.lst _,_,_=>by first|rfl|simp[toPy,PyData.eqv];rfl
 |_,_,.lst _,.non,_,_=>by first|rfl|simp[toPy,PyData.eqv];rfl
 |_,_,.lst _,.bl _,_,_=>by first|rfl|simp[toPy,PyData.eqv];rfl
 |_,_,.lst _,.int _,_,_=>by first|rfl|simp[toPy,PyData.eqv];rfl
 |_,_,.lst _,.str _,_,_=>by first|rfl|simp[toPy,PyData.eqv];rfl
 |_,_,.lst _,.tup _,_,_=>by first|rfl|simp[toPy,PyData.eqv];rfl
def nR:∀(n m:Nat) (a b:List D),a.all (aj n)=true->b.all (aj m)=true->PyData.eqvAll (cn a) (cn b)=dB a b
 |n,m,[],[],_,_=>by simp[cn,PyData.eqvAll,dB]
 |n,m,[],_::_,_,_=>by simp[cn,PyData.eqvAll,dB]
 |n,m,_::_,[],_,_=>by simp[cn,PyData.eqvAll,dB]
 | n, m, x :: a, y :: b, h, j => by
   simp only[Qb,O3] at h j;simp only[cn,PyData.eqvAll,dB];rw[mK n m x y h.1 j.1,nR n m a b h.2 j.2]
end
section
variable{fa:Fa}{X:Cx}{μ:Mu}{H:Hp}{σ:L2.St}{pins:List (Addr×Obj)}{s:O0}{M:Mem}
def iU (j:RelM fa X.K μ H M)(h:Rep fa X.K μ H d v)(e:iY M d=some ds):∃a vs,v=.ref a/\H a=some (.lst vs)/\aB fa X.K μ H ds vs:=by
 cases d with
 | lst xs =>
   cases e;obtain⟨a,vs,e,s,r⟩:=h;exact⟨a,vs,e,s.1,r⟩
 | cell k =>
   obtain⟨a,rfl,hk⟩:=h;obtain⟨vs,h2,h3⟩:=j.at_ e hk;exact⟨a,vs,rfl,h2,h3⟩
 |_=>cases e
def bA (j:RelM fa X.K μ H M)(h:Rep fa X.K μ H d v)(e:d3 M d=some ds):∃a vs,v=.ref a/\c9 X.K H a vs/\aB fa X.K μ H ds vs:=by
 cases d with
 | lst xs =>
   obtain⟨a,vs,h1,h2,h3⟩:=iU j h e;exact{a,vs,h1,.of h2,h3}
 | frz xs =>
   cases e;obtain⟨a,vs,e,s,r⟩:=h;exact{a,vs,e,s.elim (λz=>.inl (.inr z)) .inr,r}
 | cell k =>
   obtain⟨a,vs,h1,h2,h3⟩:=iU j h e;exact{a,vs,h1,.of h2,h3}
 |_=>cases e
def iT (j:RelM fa X.K μ H M)(h:Rep fa X.K μ H d v)(e:bR M d=some ds):∃a vs,v=.ref a/\(c9 X.K H a vs\/dD X.K H a vs)/\aB fa X.K μ H ds vs:=by
 cases d with
 | tup xs =>
   cases e;obtain⟨a,vs,rfl,h1,h2⟩:=h;exact{a,vs,rfl,.inr h1,h2}
 | lst xs =>
   obtain⟨a,vs,h1,h2,h3⟩:=bA j h e;exact{a,vs,h1,.inl h2,h3}
 | frz xs =>
   obtain⟨a,vs,h1,h2,h3⟩:=bA j h e;exact{a,vs,h1,.inl h2,h3}
 | cell k =>
   obtain⟨a,vs,h1,h2,h3⟩:=bA j h e;exact{a,vs,h1,.inl h2,h3}
 |_=>cases e
mutual
def dJ (I:Inv X pins σ H s):∀(d:D) (n:Nat) (v:V) (u:OX),aj n d=true->Rep fa X.K μ H d v->RelV v u->∃z,Reads s.heap u (toPy d) z
 | .non, n, v, u, _, h, r => by
   obtain rfl:v=.non:=h;obtain rfl:u=Value.none:=r;exact{_,.none}
 | .bl b, n, v, u, _, h, r => by
   obtain rfl:v=.bl b:=h;obtain rfl:u=Value.bool b:=r;exact{_,.bool b}
 | .int i, n, v, u, _, h, r => by
   obtain rfl:v=.int i:=h;obtain⟨t,rfl⟩:=r;exact{_,.int i t}
 | .str x, n, v, u, _, h, r => by
   obtain rfl:v=.str x:=h;obtain⟨t,rfl⟩:=r;exact{_,.str x t}
 | .tup B, n, v, u, j, h, r => by
   cases n with
   |zero=>simp[aj] at j
   | succ n =>
     obtain⟨a,J,rfl,h1,h2⟩:=h;obtain rfl:u=Value.ref a:=r;obtain⟨y,F,⟨o,e1,e2,k,E⟩,_⟩:=I.tuple h1;obtain⟨z,q⟩:=eX I B n J y (by simpa[aj] using j) h2 F
     exact{_,.tuple e1 e2 E (by simpa using q)}
 | .lst B, n, v, u, j, h, r => by
   cases n with
   |zero=>simp[aj] at j
   | succ n =>
     obtain⟨a,J,rfl,h1,h2⟩:=h;obtain rfl:u=Value.ref a:=r;obtain⟨y,F,⟨o,k,e1,e2,L,E⟩,_⟩:=I.list (c9.of h1.1);obtain⟨z,q⟩:=eX I B n J y (by simpa[aj] using j) h2 F
     exact{_,.list e1 e2 E (by simpa using q)}
 |.frz k,n,v,u,j,_,_=>by cases n<;>simp[aj] at j
 |.cell k,n,v,u,j,_,_=>by cases n<;>simp[aj] at j
 |.fn f,n,v,u,j,_,_=>by cases n<;>simp[aj] at j
 |.exc _ _,n,v,u,j,_,_=>by cases n<;>simp[aj] at j
def eX (I:Inv X pins σ H s):∀(ds:List D) (n:Nat) (vs:List V) (us:List OX),ds.all (aj n)=true->aB fa X.K μ H ds vs->Vals vs us->∃u,ReadsAll s.heap us (cn ds) u
 | [], n, vs, us, _, h, r => by
   obtain rfl:vs=[]:=h;cases r;exact{_,.nil}
 | d :: ds, n, vs, us, j, h, r => by
   obtain⟨v,vr,rfl,h1,h2⟩:=h;simp only[Qb,O3] at j;cases r with
   | cons r1 r2 =>
     obtain⟨u,y⟩:=dJ I d n v _ j.1 h1 r1;obtain⟨bs,z⟩:=eX I ds n vr _ j.2 h2 r2;exact{_,.cons y z}
end
def Ep (h:aj n (view M d)=true):(view M d=d/\aj n d=true)\/∃ds,d3 M d=some ds/\view M d=.lst ds:=by
 cases d with
 | cell k =>
   cases e:M[k]? with
   | none =>
     have j:view M (.cell k)=.cell k:=by simp[view,e]
     rw[j] at h;cases n<;>simp[aj] at h
   |some ds=>exact .inr {ds,e,by simp[view,e]}
 |frz ds=>exact .inr ⟨ds,rfl,rfl⟩
 |_=>exact .inl ⟨rfl,h⟩
def j8 (I:Inv X pins σ H s)(L:RelM fa X.K μ H M)(j:aj 64 (view M d)=true)(h:Rep fa X.K μ H d v)(r:RelV v u):∃B,Reads s.heap u (toPy (view M d)) B:=by
 rcases Ep j with⟨e,y⟩|⟨E,e,J⟩
 ·rw[e];exact dJ I _ 64 v u y h r
 ·rw[J] at j ⊢;obtain⟨a,P,rfl,h1,h2⟩:=bA L h e;obtain rfl:u=Value.ref a:=r;obtain⟨z,O,⟨o,k,e1,e2,Q,F⟩,_⟩:=I.list h1;obtain⟨B,q⟩:=eX I E 63 P z (by simpa[aj] using j) h2 O
  exact{_,.list e1 e2 F (by simpa using q)}
def jD (I:Inv X pins σ H s)(J:RelM fa X.K μ H M):∀(n m:Nat) (d:D) (v:V) (u:OX),aj m (bE n M d)=true->Rep fa X.K μ H d v->RelV v u->∃E,Reads s.heap u (toPy (bE n M d)) E
 |0,m,d,v,u,j,h,r=>dJ I d m v u j h r
 | n + 1, m, d, v, u, j, h, r => by
   have S:=jD I J n;have all:∀(m:Nat) (z:List D) (B:List V) (L:List OX),(z.map (bE n M)).all (aj m)=true->aB fa X.K μ H z B->Vals B L->∃E,ReadsAll s.heap L (cn (z.map (bE n M))) E:=by
    intro m z;induction z with
    | nil =>
      intro B L _ h r;obtain rfl:B=[]:=h;cases r;exact{_,.nil}
    | cons d z Q =>
      intro B L j h r;obtain⟨v,vr,rfl,h1,h2⟩:=h;simp only[PV,Qb,O3] at j;cases r with
      | cons r1 r2 =>
        obtain⟨E,U⟩:=S m d v _ j.1 h1 r1;obtain⟨bs,W⟩:=Q vr _ j.2 h2 r2;exact{_,.cons U W}
   have lst:∀(z:List D) (a:Addr) (B:List V),aj m (.lst (z.map (bE n M)))=true->c9 X.K H a B->aB fa X.K μ H z B->u=.ref a->∃E,Reads s.heap u (toPy (.lst (z.map (bE n M)))) E:=by
    intro z a B j h1 h2 e;subst e;cases m with
    |zero=>simp[aj] at j
    | succ m =>
      obtain⟨F,R,⟨o,k,e1,e2,Y,O⟩,_⟩:=I.list h1;obtain⟨E,q⟩:=all m z B F (by simpa[aj] using j) h2 R
      exact{_,.list e1 e2 O (by simpa using q)}
   cases d with
   | cell k =>
     cases e:M[k]? with
     | none =>
       have P:bE (n+1) M (.cell k)=.cell k:=by simp[bE,e]
       rw[P] at j;cases m<;>simp[aj] at j
     | some z =>
       have P:bE (n+1) M (.cell k)=.lst (z.map (bE n M)):=by simp[bE,e]
       rw[P] at j ⊢;obtain⟨a,B,rfl,h1,h2⟩:=bA J h e;exact lst z a B j h1 h2 r
   | frz z =>
     obtain⟨a,B,rfl,h1,h2⟩:=bA J h rfl;exact lst z a B j h1 h2 r
   | lst z =>
     obtain⟨a,B,rfl,h1,h2⟩:=bA J h rfl;exact lst z a B j h1 h2 r
   | tup z =>
     have j:aj m (.tup (z.map (bE n M)))=true:=j;cases m with
     |zero=>simp[aj] at j
     | succ m =>
       obtain⟨a,B,rfl,h1,h2⟩:=h;obtain rfl:u=Value.ref a:=r;obtain⟨F,R,⟨o,e1,e2,k,O⟩,_⟩:=I.tuple h1;obtain⟨E,q⟩:=all m z B F (by simpa[aj] using j) h2 R
       exact{_,.tuple e1 e2 O (by simpa using q)}
   |non=>exact dJ I .non m v u j h r
   |bl b=>exact dJ I (.bl b) m v u j h r
   |int i=>exact dJ I (.int i) m v u j h r
   |str x=>exact dJ I (.str x) m v u j h r
   |fn f=>exact dJ I (.fn f) m v u j h r
   |exc y p=>exact dJ I (.exc y p) m v u j h r
abbrev Rm (X:Cx):Prop:=X.A.units+100<cLine
def fU (fa:Fa)(K:OU)(o:jC):R2:=λx y H Q=>∃μ M h j b,RelM fa K μ H M/\Rep fa K μ H h x/\Rep fa K μ H j y/\bB o h j M=some b/\Q (.bl b) H
set_option tactic.hygienic true in
def t9 (hs:(gp a&&gp b)=false)(h:m7 a b=some k):aj 64 a=true/\aj 64 b=true/\k=bW a b:=by
 unfold m7 at h;rw[hs,Bool.false_or] at h;split at h
 ·next q=>
  simp only[O3] at q;exact{q.1,q.2,(O2 h).symm}
 ·cases h
def tP (d:D):gp (view M d)=gp d:=by
 cases d with
 |cell k=>cases e:M[k]?<;>simp[view,e,gp]
 |_=>rfl
def qO (n:Nat)(d:D):gp (bE n M d)=gp d:=by
 cases n with
 |zero=>rfl
 | succ n =>
   cases d with
   |cell k=>cases e:M[k]?<;>simp[bE,e,gp]
   |_=>rfl
def qR (I:Inv X pins σ H s)(z:RelM fa X.K μ H M)(hs:(gp a&&gp b)=false)(h:lh M a b=some k)(h1:Rep fa X.K μ H a x)(h2:Rep fa X.K μ H b y)(B:RelV x v)(E:RelV y u) :
 ∃c e j bs,aj 64 c=true/\aj 64 e=true/\k=bW c e/\Reads s.heap v (toPy c) j/\Reads s.heap u (toPy e) bs:=by
 unfold lh at h;cases q:m7 (view M a) (view M b) with
 | some r =>
   rw[q] at h;cases h;obtain⟨p1,p2,e⟩:=t9 (by rw[tP,tP];exact hs) q
   obtain⟨j,r1⟩:=j8 I z p1 h1 B;obtain⟨bs,r2⟩:=j8 I z p2 h2 E;exact{_,_,j,bs,p1,p2,e,r1,r2}
 | none =>
   rw[q] at h;obtain⟨p1,p2,e⟩:=t9 (by rw[qO,qO];exact hs) h
   obtain⟨j,r1⟩:=jD I z 64 64 a x v p1 h1 B;obtain⟨bs,r2⟩:=jD I z 64 64 b y u p2 h2 E;exact{_,_,j,bs,p1,p2,e,r1,r2}
def sr (h:(gp a&&gp b)=true):∃x y,a=.str x/\b=.str y:=by
 cases a with
 | str x =>
   cases b with
   |str y=>exact⟨x,y,rfl,rfl⟩
   |_=>cases h
 |_=>cases h
def vU:lh M (.str x) (.str y)=some (x==y):=by
 have e:bW (.str x) (.str y)=(x==y):=rfl;rw[<- e];rfl
def Ow (L:Rm X):bz X (compareOp .Eq) (fU fa X.K .eq):=by
 intro pins s σ H x y v u Q I z B h;obtain⟨μ,M,E,F,b,J,h1,h2,e,q⟩:=h;cases hs:gp E&&gp F with
 | true =>
   obtain⟨i,j,rfl,rfl⟩:=sr hs;obtain rfl:x=.str i:=h1;obtain rfl:y=.str j:=h2;obtain rfl:(i==j)=b:=O2 (vU.symm.trans e);exact Lp pins s σ H _ _ v u Q I z B {rfl,by rw[mL];exact q}
 | false =>
   obtain⟨_,_,O,bs,p1,p2,rfl,r1,r2⟩:=qR I J hs (e) h1 h2 z B;refine SeqAt.compareEq_shaped r1 r2 (jl p1) (jl p2) (by unfold Rm at L;omega) ?_
   rw[mK 64 64 _ _ p1 p2];exact{.bl _,H,I,rfl,q}
def Om (O:Rm X):bz X (compareOp .NotEq) (fU fa X.K .ne):=by
 intro pins s σ H x y v u Q I F J h;obtain⟨μ,M,B,E,b,L,h1,h2,e,q⟩:=h;have e:(lh M B E).map (!·)=some b:=e;cases z:lh M B E with
 |none=>rw[z] at e;cases e
 | some k =>
   rw[z] at e;obtain rfl:(!k)=b:=O2 e;cases hs:gp B&&gp E with
   | true =>
     obtain⟨i,j,rfl,rfl⟩:=sr hs;obtain rfl:x=.str i:=h1;obtain rfl:y=.str j:=h2;obtain rfl:(i==j)=k:=O2 (vU.symm.trans z);exact Lk pins s σ H _ _ v u Q I F J {rfl,by rw[mL];exact q}
   | false =>
     obtain⟨_,_,P,bs,p1,p2,rfl,r1,r2⟩:=qR I L hs z h1 h2 F J;refine SeqAt.compareNe_shaped r1 r2 (jl p1) (jl p2) (by unfold Rm at O;omega) ?_
     rw[mK 64 64 _ _ p1 p2];exact{.bl _,H,I,rfl,q}
end
section
variable{fa:Fa}{X:Cx}{μ:Mu}{H:Hp}{σ:L2.St}{pins:List (Addr×Obj)}{s:O0}{M:Mem}
def gW (h:bz X f r)(i:∀x y H Q,r' x y H Q->r x y H Q):bz X f r':=λpins s σ H x y v u Q I j z q=>h pins s σ H x y v u Q I j z (i x y H Q q)
def i5 (h:cu X f r)(i:∀xs H Q,r' xs H Q->r xs H Q):cu X f r':=λpins s σ H xs u Q I j q=>h pins s σ H xs u Q I j (i xs H Q q)
def mM {g:Int->Int->Bool}(ho:o=.lt\/o=.le\/o=.gt\/o=.ge)(F:∀i j,bB o (.int i) (.int j) []=some (g i j))(h:fU fa X.K o x y H Q) :
 ∃i j,x=.int i/\y=.int j/\Q (.bl (g i j)) H:=by
 obtain⟨μ,M,v,z,b,I,h1,h2,e,q⟩:=h;have u:∀i j,v=.int i->z=.int j->∃i j,x=.int i/\y=.int j/\Q (.bl (g i j)) H:=λi j e1 e2=>by
  subst e1 e2;have B:bB o (.int i) (.int j) M=some (g i j):=by
   have:=F i j;rcases ho with rfl|rfl|rfl|rfl<;>exact this
  rw[e] at B;have E:=O2 B;subst E;exact⟨i,j,h1,h2,q⟩
 rcases ho with rfl|rfl|rfl|rfl<;>
 ·cases v with
  |int i=>cases z<;>first|exact u _ _ rfl rfl|cases e
  |_=>cases e
def Oo:bz X (compareOp .Lt) (fU fa X.K .lt):=gW Ll λx y H Q h=>mM (.inl rfl) (λ_ _=>rfl) h
def Oq:bz X (compareOp .LtE) (fU fa X.K .le):=gW Lm λx y H Q h=>mM (.inr (.inl rfl)) (λ_ _=>rfl) h
def Ou:bz X (compareOp .Gt) (fU fa X.K .gt):=gW Ln λx y H Q h=>mM (.inr (.inr (.inl rfl))) (λ_ _=>rfl) h
def Ov:bz X (compareOp .GtE) (fU fa X.K .ge):=gW Lo λx y H Q h=>mM (.inr (.inr (.inr rfl))) (λ_ _=>rfl) h
def vb {K:OU}(h:Rep fa K μ H d v):decide (v=.non)=w9 d:=by
 cases d with
 |non=>obtain rfl:v=.non:=h;rfl
 |bl b=>obtain rfl:v=.bl b:=h;rfl
 |int b=>obtain rfl:v=.int b:=h;rfl
 |str b=>obtain rfl:v=.str b:=h;rfl
 |tup b=>obtain⟨a,j,rfl,_⟩:=h;rfl
 |lst b=>obtain⟨a,j,rfl,_⟩:=h;rfl
 |frz b=>obtain⟨a,j,rfl,_⟩:=h;rfl
 |cell b=>obtain⟨a,rfl,_⟩:=h;rfl
 |fn b=>obtain⟨a,rfl,_⟩:=h;rfl
 |exc y p=>obtain⟨a,_,_,rfl,_⟩:=h;rfl
def Mh:bz X (compareOp .Is) (fU fa X.K .isN):=gW IC λx y H Q h=>by
 obtain⟨μ,M,u,j,b,v,h1,h2,e,q⟩:=h;cases j<;>first|cases (show(none:Option Bool)=some b from e)|skip
 refine{h2,?_};rw[vb h1];rw[O2 e];exact q
def Kf:bz X (compareOp .IsNot) (fU fa X.K .notN):=gW Fy λx y H Q h=>by
 obtain⟨μ,M,u,j,b,v,h1,h2,e,q⟩:=h;cases j<;>first|cases (show(none:Option Bool)=some b from e)|skip
 refine{h2,?_};rw[vb h1];rw[O2 e];exact q
def uG (x:D)(j:aj 64 x=true):∀(ds:List D),ds.all (aj 63)=true->((cn ds).any λy=>PyData.eqv y (toPy x))=ds.any λy=>bW y x
 |[],_=>rfl
 | d :: r, h => by
   simp only[Qb,O3] at h;simp only[cn,List.any_cons,mK 63 64 d x h.1 j,uG x j r h.2]
def si (n:Nat):∀ds:List D,ds.all (aj n)=true->PyData.canLayAll0 (cn ds)=true/\PyData.depthAll (cn ds)<=n
 |[],_=>by simp[cn,PyData.canLayAll0,PyData.depthAll]
 | d :: r, h => by
   simp only[Qb,O3] at h;obtain⟨h1,h2⟩:=pG n d h.1;obtain⟨h3,h4⟩:=si n r h.2;simp only[cn,PyData.canLayAll0,PyData.depthAll,h1,h3,Bool.and_self,true_and];omega
def yN (I:Inv X pins σ H s)(J:RelM fa X.K μ H M)(E:ds.all (aj 63)=true)(h:Rep fa X.K μ H d v)(r:RelV v u)(e:bR M d=some ds) :
 (∃y,Reads s.heap u (.list (cn ds)) y)\/∃y,Reads s.heap u (.tuple (cn ds)) y:=by
 obtain⟨a,F,rfl,h1,h2⟩:=iT J h e;obtain rfl:u=Value.ref a:=r;rcases h1 with h1|h1
 ·obtain⟨j,B,⟨o,k,e1,e2,L,z⟩,_⟩:=I.list h1;obtain⟨y,q⟩:=eX I ds 63 F j E h2 B;exact .inl {_,.list e1 e2 z (by simpa using q)}
 ·obtain⟨j,B,⟨o,e1,e2,k,z⟩,_⟩:=I.tuple h1;obtain⟨y,q⟩:=eX I ds 63 F j E h2 B;exact .inr {_,.tuple e1 e2 z (by simpa using q)}
set_option tactic.hygienic true in
def zL (L:Rm X)(I:Inv X pins σ H s)(F:RelM fa X.K μ H M)(h1:Rep fa X.K μ H dx x)(h2:Rep fa X.K μ H dy y)(O:RelV x v)(P:RelV y u)
 (e1:bR M dy=some ds) (e2:tU (view M dx) ds=some b) (j:Bool) (q:Q (.bool (if j then !b else b)) s):wpAny (model X.prog X.w) X.A (compareOp (if j then .NotIn else .In) v u) Q X.xe s:=by
 unfold tU at e2;split at e2
 ·next z=>
  simp only[O3] at z;obtain⟨p1,p2⟩:=z;have J:=O2 e2;subst J;obtain⟨R,r1⟩:=j8 I F p1 h1 O;obtain⟨B,d1⟩:=pG 64 _ p1;obtain⟨E,S⟩:=si 63 ds p2;have h:X.A.units+1+min (PyData.depthAll (cn ds)) (toPy (view M dx)).depth<cLine:=by unfold Rm at L;omega
  rw[<- uG _ p1 ds p2] at q;rcases yN I F p2 h2 P e1 with⟨bs,r2⟩|⟨bs,r2⟩
  ·cases j
   ·exact SeqAt.in_list_reads r2 r1 E B h q
   ·exact SeqAt.notIn_list_reads r2 r1 E B h q
  ·cases j
   ·exact SeqAt.in_tuple_reads r2 r1 E B h q
   ·exact SeqAt.notIn_tuple_reads r2 r1 E B h q
 ·cases e2
def Ot (L:Rm X):bz X (compareOp .In) (fU fa X.K .isin):=by
 intro pins s σ H x y v u Q I B E h;obtain⟨μ,M,z,j,b,J,h1,h2,e,q⟩:=h;have gen:(bR M j).bind (tU (view M z))=some b->wpAny (model X.prog X.w) X.A (compareOp .In v u) (EP X pins σ Q) X.xe s:=λe=>by
  cases e1:bR M j with
  |none=>rw[e1] at e;cases e
  | some O =>
    rw[e1] at e;exact zL L I J h1 h2 B E e1 e false {.bl b,H,I,rfl,q}
 by_cases hs:(∃a,z=.str a)/\∃c,j=.str c
 ·obtain⟨⟨a,rfl⟩,c,rfl⟩:=hs;have F:=O2 e;subst F;exact ze pins s σ H x y v u Q I B E ⟨a,c,h1,h2,q⟩
 ·refine gen ?_;cases z<;>first|exact e|(cases j<;>first|exact e|exact absurd {{_,rfl},_,rfl} hs)
def Gv (O:Rm X):bz X (compareOp .NotIn) (fU fa X.K .notin):=by
 intro pins s σ H x y v u Q I E F h;obtain⟨μ,M,j,z,b,L,h1,h2,e,q⟩:=h;have gen:((bR M z).bind (tU (view M j))).map (!·)=some b->wpAny (model X.prog X.w) X.A (compareOp .NotIn v u) (EP X pins σ Q) X.xe s:=λe=>by
  cases e1:bR M z with
  |none=>rw[e1] at e;cases e
  | some J =>
    rw[e1] at e;cases e2:tU (view M j) J with
    |none=>rw[Option.bind_some,e2] at e;cases e
    | some k =>
      rw[Option.bind_some,e2] at e;have B:=O2 e;subst B;exact zL O I L h1 h2 E F e1 e2 true {.bl _,H,I,rfl,q}
 by_cases hs:(∃a,j=.str a)/\∃c,z=.str c
 ·obtain⟨⟨a,rfl⟩,c,rfl⟩:=hs;have B:=O2 e;subst B;exact sX pins s σ H x y v u Q I E F ⟨a,c,h1,h2,q⟩
 ·refine gen ?_;cases j<;>first|exact e|(cases z<;>first|exact e|exact absurd {{_,rfl},_,rfl} hs)
noncomputable def ec:jC->CmpOp
 |.eq=>.Eq|.ne=>.NotEq|.lt=>.Lt|.le=>.LtE|.gt=>.Gt|.ge=>.GtE|.isN=>.Is|.notN=>.IsNot|.isin=>.In|.notin=>.NotIn
def mP (h:Rm X):∀o:jC,bz X (compareOp (ec o)) (fU fa X.K o)
 |.eq=>Ow h|.ne=>Om h|.lt=>Oo|.le=>Oq|.gt=>Ou|.ge=>Ov|.isN=>Mh|.notN=>Kf|.isin=>Ot h|.notin=>Gv h
def lD (fa:Fa)(K:OU)(m:Bool)(o:rB):R2:=λx y H Q=>∃μ M h j,RelM fa K μ H M/\Rep fa K μ H h x/\Rep fa K μ H j y/\ae (gg m o h j M) (aZ fa K μ H Q)
def aP (j:RelM fa X.K μ H M)(h:aZ fa X.K μ H Q d M)(r:Rep fa X.K μ H d v):Q v H:=h v H μ .refl j r
set_option tactic.hygienic true in
def gq (j:RelM fa X.K μ H M)(r:aB fa X.K μ H ds vs)(h:ae (a7 m ds M) (aZ fa X.K μ H Q)):ds.length<=sz/\∀p,H p=none->Q (.ref p) (upd H p (.lst vs)):=by
 unfold a7 at h;split at h
 ·next v=>
  refine{v,λp u=>?_};cases m with
  | true =>
    exact h (.ref p) _ (eZ μ M.length p) (Ext.cell j u) (j.cell u r) {p,rfl,by simp[eZ]}
  | false =>
    exact h (.ref p) _ μ (Ext.alloc j u) (j.alloc u) {p,vs,rfl,{bH,j.fresh u},r.ext (Ext.alloc j u)}
 ·exact h.elim
def iN (j:RelM fa X.K μ H M)(r:aB fa X.K μ H ds vs)(h:aZ fa X.K μ H Q (.tup ds) M):∀p,H p=none->Q (.ref p) (upd H p (.tup vs)):=λp u=>
 h (.ref p) _ μ (Ext.alloc j u) (j.alloc u) {p,vs,rfl,.of bH,r.ext (Ext.alloc j u)}
def dm:sz=sizeLine:=by rw[sizeLine_eq];rfl
def Bv:bz X (binaryOp .Add) (λx y H Q=>∃a b ys,x=.ref a/\y=.ref b/\dD X.K H a []/\dD X.K H b ys/\Q (.ref b) H):=by
 intro pins s σ H x y v u Q I rx ry h;obtain⟨a,b,ys,rfl,rfl,U,W,q⟩:=h;cases rx;cases ry;obtain⟨its,r1,p1,_⟩:=I.tuple U;obtain⟨z,r2,p2,_⟩:=I.tuple W;cases r1;obtain⟨⟨cls,S,R,sl⟩,ho,Y,n,hd⟩:=id p1;obtain⟨⟨P,E,B,O⟩,j,J,n2,L⟩:=id p2;subst Y hd J L;exact concat_meets {_,ho,rfl} {_,j,rfl} noFill_tuple_add seq_tuple_add PySem.F.slot_tuple_add PySem.F.entry_tuple_add (PySem.F.args_tuple_add_2 _ _)
  (tuple_addW0 a b #[] z.toArray n n2 S E sl O rfl) {ho,j,{.ref b,H,I,rfl,q}}
def Cb (I:Inv X pins σ H s)(j:RelM fa X.K μ H M)(h1:Rep fa X.K μ H dx x)(h2:Rep fa X.K μ H dy y)(L:RelV x v)(O:RelV y u)
 (h:ae (match iY M dx,iY M dy with|some x,some y=>a7 m (x++y) M|_,_=>.bad) (aZ fa X.K μ H Q)):wpAny (model X.prog X.w) X.A (binaryOp .Add v u) (EP X pins σ Q) X.xe s:=by
 cases e1:iY M dx with
 |none=>rw[e1] at h;exact h.elim
 | some xs =>
   cases e2:iY M dy with
   |none=>rw[e1,e2] at h;exact h.elim
   | some S =>
     rw[e1,e2] at h;obtain⟨a,P,rfl,E,z⟩:=iU j h1 e1;obtain⟨b,R,rfl,F,B⟩:=iU j h2 e2;obtain⟨J,k⟩:=gq j (z.append B) h;refine ID pins s σ H _ _ v u Q I L O {a,b,P,R,rfl,rfl,E,F,?_,k};rw[z.length,B.length,<- O9,<- dm];exact J
set_option tactic.hygienic true in
def Ms (m:Bool):bz X (binaryOp .Add) (lD fa X.K m .add):=by
 intro pins s σ H x y v u Q I F J h;obtain⟨μ,M,L,O,B,h1,h2,h⟩:=h;have hi:∀i j,L=.int i->O=.int j->wpAny (model X.prog X.w) X.A (binaryOp .Add v u) (EP X pins σ Q) X.xe s:=λi j e1 e2=>by
  subst e1 e2;exact IE pins s σ H x y v u Q I F J {i,j,h1,h2,aP B h rfl}
 have hs:∀i j,L=.str i->O=.str j->wpAny (model X.prog X.w) X.A (binaryOp .Add v u) (EP X pins σ Q) X.xe s:=λi j e1 e2=>by
  subst e1 e2;have h:ae (if i.cps.size+j.cps.size<=sz then .ok (.str {i.cps++j.cps}) M else .bad) (aZ fa X.K μ H Q):=h;split at h
  ·next W=>exact wL pins s σ H x y v u Q I F J {i,j,h1,h2,by rw[<- dm];exact W,aP B h rfl}
  ·exact h.elim
 have ht:∀i j,L=.tup i->O=.tup j->wpAny (model X.prog X.w) X.A (binaryOp .Add v u) (EP X pins σ Q) X.xe s:=λi j e1 e2=>by
  subst e1 e2;have h:ae (if (i++j).length<=sz then .ok (.tup (i++j)) M else .bad) (aZ fa X.K μ H Q):=h;split at h
  ·next W=>
   obtain⟨a,R,e1,S,E⟩:=id h1;obtain⟨b,Y,e2,U,P⟩:=id h2;by_cases h0:i=[]
   ·subst h0;obtain rfl:R=[]:=E;exact Bv pins s σ H x y v u Q I F J {a,b,Y,e1,e2,S,U,aP B h ⟨b,Y,rfl,U,P⟩}
   ·have hv:R≠[]:=λz=>h0 (by have:=E.length;rw[z] at this;exact QH.mp this.symm)
    refine FA pins s σ H x y v u Q I F J {a,b,R,Y,e1,e2,S,U,hv,?_,λz=>?_,λ_=>iN B (E.append P) h}
    ·rw[E.length,P.length,<- O9,<- dm];exact W
    ·subst z;have ej:=QH.mp P.length.symm;subst ej;exact aP B h {a,R,rfl,S,by simpa using E}
  ·exact h.elim
 cases L<;>cases O<;>first|exact hi _ _ rfl rfl|exact hs _ _ rfl rfl|exact ht _ _ rfl rfl|exact Cb (m:=m) I B h1 h2 F J h
def r6 {g:Int->Int->Int}(hr:bz X (binaryOp op) (rI C λi j=>.int (g i j)))
 (z:∀u v M (P:D->Mem->Prop),ae (gg m o u v M) P->∃i j,u=.int i/\v=.int j/\C i j/\P (.int (g i j)) M):bz X (binaryOp op) (lD fa X.K m o):=gW hr λx y H Q h=>by
 obtain⟨μ,M,u,v,B,h1,h2,h⟩:=h;obtain⟨i,j,rfl,rfl,c,q⟩:=z u v M _ h;exact{i,j,h1,h2,c,aP B q rfl}
def Mn (m:Bool):bz X (binaryOp .Sub) (lD fa X.K m .sub):=r6 (C:=λ_ _=>True) (gW Iv λx y H Q ⟨i,j,e1,e2,_,q⟩=>⟨i,j,e1,e2,q⟩) λu v M P h=>by
 cases u<;>cases v<;>first|exact{_,_,rfl,rfl,trivial,h}|exact h.elim
set_option tactic.hygienic true in
def Ki (m:Bool):bz X (binaryOp .FloorDiv) (lD fa X.K m .fdiv):=r6 Fz λu v M P h=>by
 have y:∀i j,u=.int i->v=.int j->∃i j,u=.int i/\v=.int j/\KC i j/\P (.int (i / j)) M:=λi j e1 e2=>by
  subst e1 e2;have h:ae (if 0<j/\j<1073741824 then .ok (.int (i / j)) M else .bad) P:=h;split at h
  ·next c=>exact⟨i,j,rfl,rfl,c,h⟩
  ·exact h.elim
 cases u<;>cases v<;>first|exact y _ _ rfl rfl|exact h.elim
set_option tactic.hygienic true in
def Mq (m:Bool):bz X (binaryOp .Mod) (lD fa X.K m .mod):=r6 IB λu v M P h=>by
 have y:∀i j,u=.int i->v=.int j->∃i j,u=.int i/\v=.int j/\0<j/\P (.int (i % j)) M:=λi j e1 e2=>by
  subst e1 e2;have h:ae (if 0<j then .ok (.int (i % j)) M else .bad) P:=h;split at h
  ·next c=>exact⟨i,j,rfl,rfl,c,h⟩
  ·exact h.elim
 cases u<;>cases v<;>first|exact y _ _ rfl rfl|exact h.elim
set_option tactic.hygienic true in
def Mo (m:Bool):bz X (binaryOp .Pow) (lD fa X.K m .pow):=r6 Iy λu v M P h=>by
 have y:∀i j,u=.int i->v=.int j->∃i j,u=.int i/\v=.int j/\KA i j/\P (.int (i^j.toNat)) M:=λi j e1 e2=>by
  subst e1 e2;have h:ae (if 0<=j/\j<=1000000/\i.natAbs<2^64 then .ok (.int (i^j.toNat)) M else .bad) P:=h;split at h
  ·next c=>exact⟨i,j,rfl,rfl,c,h⟩
  ·exact h.elim
 cases u<;>cases v<;>first|exact y _ _ rfl rfl|exact h.elim
set_option tactic.hygienic true in
def Bj {j:Int}(I:Inv X pins σ H s)(z:RelM fa X.K μ H M)(h1:Rep fa X.K μ H dx x)(h2:Rep fa X.K μ H (.int j) y)(F:RelV x v)(J:RelV y u)
 (h:ae (match iY M dx with|some x=>if x.length*j.toNat<=sz/\-(2^63)<=j/\j<2^63 then a7 m (List.replicate j.toNat x).flatten M else .bad|none=>.bad) (aZ fa X.K μ H Q)) :
 wpAny (model X.prog X.w) X.A (binaryOp .Mult v u) (EP X pins σ Q) X.xe s:=by
 cases e1:iY M dx with
 |none=>rw[e1] at h;exact h.elim
 | some xs =>
   rw[e1] at h;simp only at h;split at h
   ·next c=>
    obtain⟨a,L,rfl,E,B⟩:=iU z h1 e1;obtain⟨O,k⟩:=gq z (B.rep j.toNat) h;exact Iw pins s σ H _ _ v u Q I F J {a,j,L,rfl,h2,E,c.2.1,c.2.2,by rw[B.length,<- dm];exact c.1,k}
   ·exact h.elim
end
end LD
namespace LD
open PySem PySem.Spec PyProof.Rows L2 PySem.Builtin
open PySem.Sem (wp)
def nH:fillsNumberSlot (.type "tuple") "mul"=pure false:=
 PySem.fillsNumberSlot_seq F.slot_tuple_mul.lookup `k F.slot_tuple_rmul.lookup `k
def sO:seqRepeat? (.type "tuple")=pure (some (.builtin "tuple.__mul__")):=by
 unfold seqRepeat?;rw[PySem.seqSlot_of (name:="__mul__") F.slot_tuple_mul.lookup `k,PySem.seqSlot_of (name:="__rmul__") F.slot_tuple_rmul.lookup `k]
 rfl
def pL (a:Int)(t:Tok)(l:Addr)(items:Array OX)(n:Nat)(dd:Option Addr)(sl:Array (Option OX)) :
 Meets (Builtin.«int.__rmul__» {[.int a t,.ref l],[]}) (λ_ R s=>s.heap.get? l=some {cls:=.type "tuple",dict:=dd,data:=.seq items n,slots:=sl}/\R (.ok (.ret Value.notImplemented)) s):=
 .of_wp λprog w A R s h=>by obtain⟨j,g,d,tk,os⟩:=s;obtain⟨hl,h⟩:=h;wp_walk using wpAny_loadPart' hl;exact{_,rfl,h}
def wK {x:Int}(h:-(2^63)<=x)(h1:x<2^63):(decide (x < -2^63)||decide (x≥2^63))=false:=by
 rw[decide_eq_false `a,decide_eq_false `a];rfl
def pW (l:Addr)(items:Array OX)(n:Nat)(dd:Option Addr)(sl:Array (Option OX))(x:Int)(u:Tok)(j:-(2^63)<=x)(h1:x<2^63)(v:(items.isEmpty||x==1)=true) :
 Meets (Builtin.«tuple.__mul__» {[.ref l,.int x u],[]}) (λ_ R s=>s.heap.get? l=some {cls:=.type "tuple",dict:=dd,data:=.seq items n,slots:=sl}/\R (.ok (.ret (.ref l))) s):=
 .of_wp λprog w A R s h=>by
  obtain⟨y,g,d,tk,os⟩:=s;obtain⟨hl,h⟩:=h;have f1:=AutoSeq1.idx_int;wp_walk using wpAny_loadPart' hl
  refine wpAny_ite_false (by rw[wK j h1];rfl) ?_
  wp_walk using wpAny_loadPart' hl
  exact{_,rfl,h}
def pX (l:Addr)(items:Array OX)(n:Nat)(dd:Option Addr)(sl:Array (Option OX))(x:Int)(u:Tok)(j:-(2^63)<=x)(h1:x<2^63)(y:(items.isEmpty||x==1)=false)(v:(decide (x<=0)||items.isEmpty)=true) :
 Meets (Builtin.«tuple.__mul__» {[.ref l,.int x u],[]}) (λ_ R s=>s.heap.get? l=some {cls:=.type "tuple",dict:=dd,data:=.seq items n,slots:=sl}/\R (.ok (.ret (.ref s.heap.objs.size))) {s with heap:=s.heap.push {cls:=Value.type "tuple",data:=Data.seq #[]},toks:=s.toks}):=
 .of_wp λprog w A R s h=>by
  obtain⟨z,g,d,tk,os⟩:=s;obtain⟨hl,h⟩:=h;have f1:=AutoSeq1.idx_int;wp_walk using wpAny_loadPart' hl
  refine wpAny_ite_false (by rw[wK j h1];rfl) ?_
  wp_walk using wpAny_loadPart' hl
  exact{_,rfl,h}
def pY (l:Addr)(items:Array OX)(n:Nat)(dd:Option Addr)(sl:Array (Option OX))(x:Int)(u:Tok)(j:-(2^63)<=x)(h1:x<2^63)(z:(items.isEmpty||x==1)=false)(v:(decide (x<=0)||items.isEmpty)=false)
 (hs:(items.size:Int)*x<=16777216) (y:(List.foldl (λx1 x2=>x1++x2) #[] (List.replicate x.toNat items)).size<=sizeLine) :
 Meets (Builtin.«tuple.__mul__» {[.ref l,.int x u],[]}) (λ_ R s=>s.heap.get? l=some {cls:=.type "tuple",dict:=dd,data:=.seq items n,slots:=sl}/\R (.ok (.ret (.ref s.heap.objs.size))) {s with heap:=s.heap.push {cls:=Value.type "tuple",data:=Data.seq (List.foldl (λx1 x2=>x1++x2) #[] (List.replicate x.toNat items))},toks:=s.toks}):=
 .of_wp λprog w A R s h=>by
  obtain⟨B,g,d,tk,os⟩:=s;obtain⟨hl,h⟩:=h;have f1:=AutoSeq1.idx_int;wp_walk using wpAny_loadPart' hl
  refine wpAny_ite_false (by rw[wK j h1];rfl) ?_
  wp_walk using wpAny_loadPart' hl
  refine wpAny_ite_false (decide_eq_false `a) ?_
  wp_walk using wpAny_loadPart' hl
  refine wpAny_ite_false (decide_eq_false (by unfold Tuple.tupleTooMany;rw[sizeLine_eq];simp;omega)) ?_
  wp_walk using wpAny_loadPart' hl
  exact{_,rfl,h}
section
variable{fa:Fa}{X:Cx}{μ:Mu}{H:Hp}{σ:L2.St}{pins:List (Addr×Obj)}{s:O0}{M:Mem}
def qH (h:List OX)(m:Nat):List.foldl (λx1 x2=>x1++x2) #[] (List.replicate m h.toArray)=(List.replicate m h).flatten.toArray:=by
 have:=foldl_rep h m [];rw[List.nil_append] at this;exact this
def Fx:bz X (binaryOp .Mult) (λx y H Q=>∃l k xs,x=.ref l/\y=.int k/\dD X.K H l xs/\-(2^63)<=k/\k<2^63/\xs.length*k.toNat<=sz/\
 ((List.replicate k.toNat xs).flatten=xs->Q (.ref l) H)/\∀p,H p=none->Q (.ref p) (upd H p (.tup (List.replicate k.toNat xs).flatten))):=by
 intro pins s σ H x y v u Q I rx ry h;obtain⟨l,k,xs,rfl,rfl,Y,h1,h2,U,q1,q2⟩:=h;cases rx;obtain⟨t,rfl⟩:=ry;obtain⟨j,r,p,hzz⟩:=I.tuple Y;have hl:=r.length;obtain⟨⟨cls,L,data,sl⟩,ho,W,n,hd⟩:=id p;subst W hd;refine wpAny_binaryOp_repeat_ref `d {_,ho,rfl} (λs'=>typeIs_int s' k t) nH F.fills_int_mul F.slot_int_rmul sO F.slot_int_index.lookup
  (call_meets F.slot_int_rmul (typeIs_int s k t) F.entry_int_rmul (F.args_int_rmul_2 _ _) (pL k t l j.toArray n L sl) {ho,rfl,{_,ho,rfl},?_})
 have new:∀(B:List OX),Vals (List.replicate k.toNat xs).flatten B->EP X pins σ Q (.ref s.heap.objs.size) {s with heap:=s.heap.push {cls:=Value.type "tuple",data:=Data.seq B.toArray}}:=λB r'=>by
  refine{.ref s.heap.objs.size,_,I.laid (λb ob q=>OW _ q) (OZ _) ?_,rfl,q2 _ (I.hok.fresh (OZ _))};exact{by rw[len_rep,Nat.mul_comm,<- dm];exact U,_,r',IsTup.new _ _}
 by_cases O:(j.toArray.isEmpty||k==1)=true
 ·refine call_meets F.slot_tuple_mul {_,ho,rfl} F.entry_tuple_mul (F.args_tuple_mul_2 _ _) (pW l j.toArray n L sl k t h1 h2 O) {ho,{.ref l,H,I,rfl,q1 ?_}};rcases Bool.or_eq_true_iff.mp O with z|z
  ·have e:j=[]:=by simpa using z
   subst e;have e2:=QH.mp hl;subst e2;simp
  ·have e:k=1:=by simpa using z
   subst e;simp
 ·have E:(j.toArray.isEmpty||k==1)=false:=by simpa using O
  by_cases P:(decide (k<=0)||j.toArray.isEmpty)=true
  ·refine call_meets F.slot_tuple_mul {_,ho,rfl} F.entry_tuple_mul (F.args_tuple_mul_2 _ _) (pX l j.toArray n L sl k t h1 h2 E P) {ho,new [] ?_};have hk:k<=0:=by
    rcases Bool.or_eq_true_iff.mp P with z|z
    ·simpa using z
    ·rw[z] at E;cases E
   have R:k.toNat=0:=`a
   rw[R];exact .nil
  ·have J:(decide (k<=0)||j.toArray.isEmpty)=false:=by simpa using P
   have hk:0<k:=by
    have:=(Bool.or_eq_false_iff.mp J).1;simpa using this
   have hs:(j.toArray.size:Int)*k<=16777216:=by
    have e1:(j.toArray.size:Int)*k=((xs.length*k.toNat:Nat):Int):=by
     rw[O7,<- hl,Int.natCast_mul,Int.toNat_of_nonneg `a]
    rw[e1];have:xs.length*k.toNat<=16777216:=U;omega
   have S:(List.foldl (λx1 x2=>x1++x2) #[] (List.replicate k.toNat j.toArray)).size<=sizeLine:=by
    rw[qH,O7,len_rep,Nat.mul_comm,<- hl,<- dm];exact U
   refine call_meets F.slot_tuple_mul {_,ho,rfl} F.entry_tuple_mul (F.args_tuple_mul_2 _ _) (pY l j.toArray n L sl k t h1 h2 E J hs S) {ho,?_};rw[qH];exact new _ (r.rep k.toNat)
set_option tactic.hygienic true in
def Mp (m:Bool):bz X (binaryOp .Mult) (lD fa X.K m .mul):=by
 intro pins s σ H x y v u Q I L O h;obtain⟨μ,M,B,E,F,h1,h2,h⟩:=h;have U:∀i j,B=.int i->E=.int j->wpAny (model X.prog X.w) X.A (binaryOp .Mult v u) (EP X pins σ Q) X.xe s:=λi j e1 e2=>by
  subst e1 e2;have h:ae (if (-(2^64)<i/\i<2^64)\/(-(2^64)<j/\j<2^64) then .ok (.int (i*j)) M else .bad) (aZ fa X.K μ H Q):=h;split at h
  ·next c=>exact Iz pins s σ H x y v u Q I L O {i,j,h1,h2,c,aP F h rfl}
  ·exact h.elim
 have W:∀i j,B=.tup i->E=.int j->wpAny (model X.prog X.w) X.A (binaryOp .Mult v u) (EP X pins σ Q) X.xe s:=λi j e1 e2=>by
  subst e1 e2;have h:ae (if i.length*j.toNat<=sz/\-(2^63)<=j/\j<2^63 then .ok (.tup (List.replicate j.toNat i).flatten) M else .bad) (aZ fa X.K μ H Q):=h;split at h
  ·next c=>
   obtain⟨a,R,e1,P,J⟩:=id h1;refine Fx pins s σ H x y v u Q I L O {a,j,R,e1,h2,P,c.2.1,c.2.2,by rw[J.length];exact c.1,λz=>?_,iN F (J.rep j.toNat) h}
   refine aP F h {a,R,rfl,P,?_};have:=J.rep j.toNat;rw[z] at this;exact this
  ·exact h.elim
 have hl:∀j,E=.int j->ae (match iY M B with|some x=>if x.length*j.toNat<=sz/\-(2^63)<=j/\j<2^63 then a7 m (List.replicate j.toNat x).flatten M else .bad|none=>.bad) (aZ fa X.K μ H Q)->
  wpAny (model X.prog X.w) X.A (binaryOp .Mult v u) (EP X pins σ Q) X.xe s:=λj e1 S=>by
  subst e1;exact Bj I F h1 h2 L O S
 cases E with
 |int j=>cases B<;>first|exact U _ _ rfl rfl|exact W _ _ rfl rfl|exact hl _ rfl h
 |_=>cases B<;>exact h.elim
noncomputable def binOp:rB->Operator
 |.add=>.Add|.sub=>.Sub|.mul=>.Mult|.fdiv=>.FloorDiv|.mod=>.Mod|.pow=>.Pow
def Mr (m:Bool):∀o:rB,bz X (binaryOp (binOp o)) (lD fa X.K m o)
 |.add=>Ms m|.sub=>Mn m|.mul=>Mp m|.fdiv=>Ki m|.mod=>Mq m|.pow=>Mo m
end
end LD
namespace LD
open PySem PySem.Spec PyProof.Rows L2
section
variable{fa:Fa}{X:Cx}{μ:Mu}{H:Hp}{σ:L2.St}{pins:List (Addr×Obj)}{s:O0}{M:Mem}
def Jl (h:jA X r)(i:∀x y H Q,r' x y H Q->r x y H Q):jA X r':=λz j pins s σ H x y v u Q I B E q hs=>h z j pins s σ H x y v u Q I B E (i x y H Q q) hs
def rIdx (fa:Fa)(K:OU):R2:=λx y H Q=>∃μ M h j d,RelM fa K μ H M/\Rep fa K μ H h x/\Rep fa K μ H j y/\da h j M=some d/\aZ fa K μ H Q d M
def tO (n:Nat)(i:Int):LD.b6 n i=L2.b6 n i:=rfl
set_option tactic.hygienic true in
def DJ:jA X (rIdx fa X.K):=Jl Jk λx y H Q h=>by
 obtain⟨μ,M,u,I,d,F,h1,h2,e,q⟩:=h;have gen:∀i,I=.int i->((bR M u).bind λE=>(LD.b6 E.length i).bind λj=>E[j]?)=some d->HY X.K x y H Q:=λi R O=>by
  subst R;clear e;have e:=O;clear O;cases e1:bR M u with
  |none=>rw[e1] at e;cases e
  | some E =>
    rw[e1,Option.bind_some] at e;obtain⟨a,L,rfl,B,r⟩:=iT F h1 e1;cases e2:LD.b6 E.length i with
    |none=>rw[e2] at e;cases e
    | some j =>
      rw[e2,Option.bind_some] at e;obtain⟨v,U,P⟩:=r.get e;have he:rn L i=some v:=by
       unfold rn;rw[r.length,<- tO,e2];exact U
      rcases B with B|B
      ·exact .inl {a,L,i,v,rfl,h2,B,he,aP F q P}
      ·exact .inr (.inl {a,L,i,v,rfl,h2,B,he,aP F q P})
 have str:∀z i,u=.str z->I=.int i->HY X.K x y H Q:=λz i e1 e2=>by
  subst e1 e2;have e:(if z.cps.size<=sz then(LD.b6 z.cps.size i).bind λj=>(z.cps[j]?).map λc=>D.str {#[c]} else none)=some d:=e;split at e
  ·next W=>
   cases e2:LD.b6 z.cps.size i with
   |none=>rw[e2] at e;cases e
   | some j =>
     rw[e2,Option.bind_some] at e;cases J:z.cps[j]? with
     |none=>rw[J] at e;cases e
     | some c =>
       rw[J] at e;have S:=O2 e;subst S;refine .inr (.inr {z,i,c,h1,h2,by rw[<- dm];exact W,?_,aP F q rfl})
       unfold rn;rw[show z.cps.toList.length=z.cps.size by simp,<- tO,e2]
       simpa using J
  ·cases e
 cases I with
 |int i=>cases u<;>first|exact str _ _ rfl rfl|exact gen _ rfl e
 |_=>cases u<;>cases (e)
def Hv (h:mi X r)(i:∀x lo hi H Q,r' x lo hi H Q->r x lo hi H Q):mi X r':=λpins s σ H x v y z lo hi sl Q I u hs pl j q=>h pins s σ H x v y z lo hi sl Q I u hs pl j (i x lo hi H Q q)
noncomputable def oz:D->Option (Option Int)
 |.non=>some none
 |.int i=>some (some i)
 |_=>none
def sM (n d:Nat)(x:D):LD.aK n d x=(oz x).map (HT.aK n d):=by
 cases x<;>rfl
def sH:mi X (λx lo hi H Q=>∃a xs,x=.ref a/\dD X.K H a xs/\(HT.aK xs.length 0 lo=0/\HT.aK xs.length xs.length hi=xs.length)/\Q (.ref a) H):=by
 intro pins s σ H x v U W lo hi sl Q I R hs pl P h;obtain⟨a,xs,rfl,O,J,q⟩:=h;cases R;obtain⟨j,r,u,S⟩:=I.tuple O;refine{"tuple",_,Qn.lookup,u.typeIs,?_};have y:j.toArray.size=xs.length:=by rw[O7];exact r.length.symm
 rw[<- y] at J;obtain⟨os,F,E,L⟩:=id hs;have B:s.TypeIs (.ref sl) "slice":=⟨os,F,E⟩;unfold getItem;try with_reducible refine tqo ?_
 first|refine tqa (tqb ?_)|skip
 refine tqa (wpAny_sequenceKey u.typeIs `d ?_)
 refine tqa (wpAny_callSpecial?_slot u.typeIs Qn
  (wpAny_call_entry Qn u.typeIs entry_tuple_getitem ?_ (args_tuple_getitem _ _)))
 show wpAny _ _ (Builtin.Tuple.tupleItemsOf (.ref a) >>= _) _ _ s;refine tqa (tupleItemsOf_ u ?_);refine tqa (wpAny_typeOf B ?_);rw[if_pos `d]
 refine tqa (HT.iQ hs pl P ?_);have z:(((HT.aK j.toArray.size 0 lo:Nat):Int)==0&&(1:Int)==1&&(HT.aK j.toArray.size j.toArray.size hi-HT.aK j.toArray.size 0 lo)==j.toArray.size)=true:=by
  rw[J.1,J.2];simp
 show wpAny _ _ (if (((HT.aK j.toArray.size 0 lo:Nat):Int)==0&&(1:Int)==1&&(HT.aK j.toArray.size j.toArray.size hi-HT.aK j.toArray.size 0 lo)==j.toArray.size)=true then _ else _) _ _ s;rw[if_pos z];refine tqa ?_;refine tqa (wpAny_typeOf u.typeIs ?_);refine tqb ?_;rw[if_pos `d]
 exact tqa (wpAny_rule (tqb {_,rfl,tqb {.ref a,H,I,rfl,q}}))
def NA (fa:Fa)(K:OU)(m:Bool):V->Option Int->Option Int->Hp->VK->Prop:=λx lo u H Q=>∃μ M j dl h,RelM fa K μ H M/\Rep fa K μ H j x/\oz dl=some lo/\oz h=some u/\ae (cQ m j dl h M) (aZ fa K μ H Q)
def E2 (m:Bool):mi X (NA fa X.K m):=by
 refine Hv (E3.or (Hu.or sH)) λx lo u H Q h=>?_;obtain⟨μ,M,z,dl,E,B,h1,e1,e2,h⟩:=h;have gen:ae (match d3 M z with
  | some xs => match LD.aK xs.length 0 dl, LD.aK xs.length xs.length E with
    |some l,some h=>a7 m (cut xs l h) M
    |_,_=>.bad
  |none=>.bad) (aZ fa X.K μ H Q)->HU X.K x lo u H Q:=λh=>by
  cases e:d3 M z with
  |none=>rw[e] at h;exact h.elim
  | some xs =>
    rw[e] at h;simp only[sM,e1,e2,Option.map_some] at h;obtain⟨a,j,rfl,v,r⟩:=bA B h1 e;have hl:=r.length;obtain⟨_,k⟩:=gq B ((r.drop (HT.aK xs.length 0 lo)).take (HT.aK xs.length xs.length u-HT.aK xs.length 0 lo)) h;refine{a,j,rfl,v,?_};unfold qi;rw[hl];exact k
 have tup:∀xs,z=.tup xs->HS X.K x lo u H Q\/∃a xs,x=.ref a/\dD X.K H a xs/\(HT.aK xs.length 0 lo=0/\HT.aK xs.length xs.length u=xs.length)/\Q (.ref a) H:=λxs e=>by
  subst e;have h:ae (match LD.aK xs.length 0 dl,LD.aK xs.length xs.length E with
   |some l,some h=>.ok (.tup (cut xs l h)) M
   |_,_=>.bad) (aZ fa X.K μ H Q):=h
  simp only[sM,e1,e2,Option.map_some] at h;obtain⟨a,j,rfl,v,r⟩:=h1;have hl:=r.length;by_cases y:HT.aK j.length 0 lo=0/\HT.aK j.length j.length u=j.length
  ·refine .inr {a,j,rfl,v,y,?_};rw[hl] at y;have F:cut xs (HT.aK xs.length 0 lo) (HT.aK xs.length xs.length u)=xs:=by rw[y.1,y.2];simp[cut]
   rw[F] at h;exact aP B h ⟨a,j,rfl,v,r⟩
  ·refine .inl {a,j,rfl,v,y,?_};have k:=iN B ((r.drop (HT.aK xs.length 0 lo)).take (HT.aK xs.length xs.length u-HT.aK xs.length 0 lo)) h;unfold qi;rw[hl];exact k
 cases z<;>first|exact .inr (tup _ rfl)|exact .inl (gen h)
def ny (fa:Fa)(K:OU)(f:wh):List V->Hp->VK->Prop:=λj H Q=>∃μ M h,RelM fa K μ H M/\aB fa K μ H h j/\ae (ee f h M) (aZ fa K μ H Q)
def oo {d:D}{vs:List V}{K:OU}(h:aB fa K μ H [d] vs):∃v,vs=[v]/\Rep fa K μ H d v:=by
 obtain⟨v,r,rfl,h1,h2⟩:=h;obtain rfl:r=[]:=h2;exact⟨v,rfl,h1⟩
set_option tactic.hygienic true in
def LJ:cu X (.builtin "len") (ny fa X.K .len):=i5 (uu.or ur) λB H Q h=>by
 obtain⟨μ,M,E,j,r,h⟩:=h
 match E,r,h with
 |[],_,h=>exact h.elim
 |d::_::_,_,h=>cases d<;>exact h.elim
 | [d], r, h =>
   obtain⟨v,rfl,y⟩:=oo r;have gen:ae (match bR M d with|some xs=>.ok (.int xs.length) M|none=>.bad) (aZ fa X.K μ H Q)->∃p u,[v]=[.ref p]/\(c9 X.K H p u\/dD X.K H p u)/\Q (.int u.length) H:=λh=>by
    cases e:bR M d with
    |none=>rw[e] at h;exact h.elim
    | some xs =>
      rw[e] at h;obtain⟨a,B,rfl,F,r⟩:=iT j y e;refine{a,B,rfl,F,?_};rw[r.length];exact aP j h rfl
   have str:∀x,d=.str x->∃z,[v]=[V.str z]/\z.length<=sizeLine/\Q (.int z.length) H:=λx e=>by
    subst e;have h:ae (if x.cps.size<=sz then .ok (.int x.cps.size) M else .bad) (aZ fa X.K μ H Q):=h;split at h
    ·next c=>exact{x,by rw[show v=.str x from y],by rw[<- dm];exact c,aP j h rfl}
    ·exact h.elim
   cases d<;>first|exact .inr (str _ rfl)|exact .inl (gen h)
def FY:cu X (.type "tuple") (ny fa X.K .tuple):=i5 rJ λu H Q h=>by
 obtain⟨μ,M,E,y,r,h⟩:=h
 match E,r,h with
 |[],_,h=>exact h.elim
 |d::_::_,_,h=>cases d<;>exact h.elim
 | [d], r, h =>
   obtain⟨v,rfl,B⟩:=oo r;have gen:ae (match d3 M d with|some xs=>.ok (.tup xs) M|none=>.bad) (aZ fa X.K μ H Q)->∃p j,[v]=[.ref p]/\((c9 X.K H p j/\∀l,H l=none->Q (.ref l) (upd H l (.tup j)))\/(dD X.K H p j/\Q (.ref p) H)):=λh=>by
    cases e:d3 M d with
    |none=>rw[e] at h;exact h.elim
    | some xs =>
      rw[e] at h;obtain⟨a,u,rfl,z,r⟩:=bA y B e;exact{a,u,rfl,.inl {z,iN y r h}}
   have tup:∀x,d=.tup x->∃p j,[v]=[.ref p]/\((c9 X.K H p j/\∀l,H l=none->Q (.ref l) (upd H l (.tup j)))\/(dD X.K H p j/\Q (.ref p) H)):=λx e=>by
    subst e;obtain⟨a,u,rfl,z,r⟩:=id B;exact{a,u,rfl,.inr {z,aP y h B}}
   cases d<;>first|exact tup _ rfl|exact gen h
def Jx (m:Bool):cu X (.type "list") (ny fa X.K (.list m)):=i5 uq λu H Q h=>by
 obtain⟨μ,M,y,j,r,h⟩:=h
 match y,r,h with
 |[],_,h=>exact h.elim
 |_::_::_,_,h=>exact h.elim
 | [d], r, h =>
   obtain⟨v,rfl,B⟩:=oo r;have h:ae (match bR M d with|some xs=>a7 m xs M|none=>.bad) (aZ fa X.K μ H Q):=h
   cases e:bR M d with
   |none=>rw[e] at h;exact h.elim
   | some xs =>
     rw[e] at h;obtain⟨a,u,rfl,z,r⟩:=iT j B e;obtain⟨_,k⟩:=gq j r h;exact⟨a,u,rfl,z,k⟩
end
section
variable{fa:Fa}{X:Cx}{μ:Mu}{H:Hp}{σ:L2.St}{pins:List (Addr×Obj)}{s:O0}{M:Mem}
set_option tactic.hygienic true in
def Nf (hM:RelM fa X.K μ H M)(h:Rep fa X.K μ H d v)(e:jE M d=some k):Cj X.K v H k:=by
 cases d with
 |non=>obtain rfl:v=.non:=h;exact(O2 e).symm
 |bl b=>obtain rfl:v=.bl b:=h;exact(O2 e).symm
 |int i=>obtain rfl:v=.int i:=h;exact(O2 e).symm
 | str x =>
   obtain rfl:v=.str x:=h;have e:(if x.cps.size<=sz then some (x.cps.size != 0) else none)=some k:=e;split at e
   ·next c=>
    refine{by rw[<- dm];exact c,?_}
    rw[<- O2 e];show(x.cps.size != 0)=((x.cps.size:Int) != 0);rw[Qs];simp
   ·cases e
 | tup ds =>
   obtain⟨a,vs,rfl,hq,r⟩:=h;refine .inr (.inl {vs,hq,?_});rw[<- O2 e];have:=r.length;cases vs<;>cases ds<;>simp_all
 | lst ds =>
   obtain⟨a,vs,rfl,hq,r⟩:=bA hM h rfl;refine .inl {vs,hq,?_};rw[<- O2 e];have:=r.length;cases vs<;>cases ds<;>simp_all
 | frz ds =>
   obtain⟨a,vs,rfl,hq,r⟩:=bA hM h rfl;refine .inl {vs,hq,?_};rw[<- O2 e];have:=r.length;cases vs<;>cases ds<;>simp_all
 | cell c =>
   have e:(M[c]?).map (λds=>!ds.isEmpty)=some k:=e;cases e1:M[c]? with
   |none=>rw[e1] at e;cases e
   | some ds =>
     rw[e1] at e;obtain⟨a,vs,rfl,hq,r⟩:=bA hM h e1;refine .inl {vs,hq,?_};rw[<- O2 e];have:=r.length;cases vs<;>cases ds<;>simp_all
 |fn f=>cases e
 |exc y p=>cases e
def yR:∀{ds:List D}{bs:List Bool}{vs:List V}{us:List OX},boolsOf ds=some bs->aB fa X.K μ H ds vs->Vals vs us->PyProof.Rows.LSm.BoolsAre us bs:=by
 intro ds;induction ds with
 | nil =>
   intro bs vs us e h r;obtain rfl:vs=[]:=h;cases r;cases e;exact .nil
 | cons d ds j =>
   intro bs vs us e h r;obtain⟨v,vr,rfl,h1,h2⟩:=h;cases r with
   | cons r1 r2 =>
     cases d with
     | bl b =>
       have e:(boolsOf ds).map (b::·)=some bs:=e;cases e1:boolsOf ds with
       |none=>rw[e1] at e;cases e
       | some u =>
         rw[e1] at e;have e2:=O2 e;subst e2;obtain rfl:v=.bl b:=h1;obtain rfl:_=Value.bool b:=r1;exact .cons b (j e1 h2 r2)
     |_=>cases e
def ql:cu X (.builtin "all") (λxs H Q=>∃μ ds bs p vs,xs=[.ref p]/\X.calm=true/\c9 X.K H p vs/\aB fa X.K μ H ds vs/\boolsOf ds=some bs/\Q (.bl (bs.all id)) H):=by
 intro pins s σ H xs us Q I r h;obtain⟨μ,ds,bs,p,vs,rfl,J,L,O,E,q⟩:=h;obtain⟨u,rfl,R⟩:=vals1 r;cases R;obtain⟨j,P,pl,Y⟩:=I.list L;have B:=yR E O P;have y:=pl.lt;refine call_all_walk (wpAny_pyIter_list pl.isList ?_);refine{s.heap.objs.size,[s.heap.objs.size,p],[s.heap.objs.size],j.toArray.size,_,_,λi=>(bs[i]?).getD true,rfl,Walks.list (A:=X.A.in1) (I.ok.hd J) _ p (Pu y) j.toArray,
  {{_,Ph _ rfl,rfl,rfl},pl.isList.push _},λi v s' U S F z=>?_,λW tk hk=>?_}
 ·obtain⟨b,e,rfl⟩:=B.get i v (by simpa using F)
  simp only[e,Option.getD_some] at z;exact tqp z
 ·have e:((List.range j.toArray.size).all λi=>(bs[i]?).getD true)=bs.all id:=by
   rw[O7,B.length];exact PyProof.Rows.LSm.range_all bs
  rw[e];exact{.bl _,H,I.kept (PyProof.Rows.LSm.kept_iter hk),rfl,q}
def Bi:∀{ds:List D}{bs:List Int}{vs:List V}{us:List OX},intsOf ds=some bs->aB fa X.K μ H ds vs->Vals vs us->IntsAre us bs:=by
 intro ds;induction ds with
 | nil =>
   intro bs vs us e h r;obtain rfl:vs=[]:=h;cases r;cases e;exact .nil
 | cons d ds j =>
   intro bs vs us e h r;obtain⟨v,vr,rfl,h1,h2⟩:=h;cases r with
   | cons r1 r2 =>
     cases d with
     | int b =>
       have e:(intsOf ds).map (b::·)=some bs:=e;cases e1:intsOf ds with
       |none=>rw[e1] at e;cases e
       | some u =>
         rw[e1] at e;have e2:=O2 e;subst e2;obtain rfl:v=.int b:=h1;obtain⟨t,rfl⟩:=r1;exact .cons b t (j e1 h2 r2)
     |_=>cases e
def rK:cu X (.builtin "sum") (λxs H Q=>∃μ ds bs p vs,xs=[.ref p]/\X.calm=true/\c9 X.K H p vs/\aB fa X.K μ H ds vs/\intsOf ds=some bs/\Q (.int bs.sum) H):=by
 intro pins s σ H xs U Q I r h;obtain⟨μ,ds,ns,p,vs,rfl,B,E,J,z,q⟩:=h;obtain⟨u,rfl,O⟩:=vals1 r;cases O;obtain⟨F,L,pl,S⟩:=I.list E;have v:=Bi z J L;obtain⟨xs,y⟩:=v.allInts.items;have j:=y ▸ pl.isList;refine sum_intListG (I.ok.hd B) j λR tk P hk=>?_;have e1:ns=xs.toList.map (·.1):=by
  rw[<- nums_intItems,<- y];exact(v.numsOf).symm
 have e2:preSum (numAt xs) xs.size=ns.sum:=by
  rw[preSum_eq,Pw `s,e1]
 rw[e2];exact{.int _,H,I.kept hk,⟨P,rfl⟩,q}
def LL (z:X.calm=true):cu X (.builtin "all") (ny fa X.K .all):=i5 (ql) λu H Q h=>by
 obtain⟨μ,M,y,j,r,h⟩:=h
 match y,r,h with
 |[],_,h=>exact h.elim
 |d::_::_,_,h=>exact h.elim
 | [d], r, h =>
   obtain⟨v,rfl,E⟩:=oo r;have h:ae (match d3 M d with|some xs=>(match boolsOf xs with|some bs=>.ok (.bl (bs.all id)) M|none=>.bad)|none=>.bad) (aZ fa X.K μ H Q):=h
   cases e:d3 M d with
   |none=>rw[e] at h;exact h.elim
   | some xs =>
     rw[e] at h;simp only at h;cases e2:boolsOf xs with
     |none=>rw[e2] at h;exact h.elim
     | some bs =>
       rw[e2] at h;obtain⟨a,u,rfl,B,r⟩:=bA j E e;exact{μ,xs,bs,a,u,rfl,z,B,r,e2,aP j h rfl}
def LI (z:X.calm=true):cu X (.builtin "sum") (ny fa X.K .sum):=i5 (rK) λu H Q h=>by
 obtain⟨μ,M,y,j,r,h⟩:=h
 match y,r,h with
 |[],_,h=>exact h.elim
 |d::_::_,_,h=>exact h.elim
 | [d], r, h =>
   obtain⟨v,rfl,E⟩:=oo r;have h:ae (match d3 M d with|some xs=>(match intsOf xs with|some bs=>.ok (.int bs.sum) M|none=>.bad)|none=>.bad) (aZ fa X.K μ H Q):=h
   cases e:d3 M d with
   |none=>rw[e] at h;exact h.elim
   | some xs =>
     rw[e] at h;simp only at h;cases e2:intsOf xs with
     |none=>rw[e2] at h;exact h.elim
     | some bs =>
       rw[e2] at h;obtain⟨a,u,rfl,B,r⟩:=bA j E e;exact{μ,xs,bs,a,u,rfl,z,B,r,e2,aP j h rfl}
noncomputable def tyName:Ty->String
 |.int=>"int" | .bool=>"bool" | .str=>"str" | .tuple=>"tuple" | .list=>"list" | .own _=>""
def Mz:D->String
 |.non=>"NoneType" | .bl _=>"bool" | .int _=>"int" | .str _=>"str" | .tup _=>"tuple" | _=>"list"
def KN (t:Ty)(d:D)(b:Bool)(j:∀c,t≠.own c)(e:fY t d=some b):PySem.W.kitOne X.K (.type (Mz d)) (.type (tyName t))=some b:=by
 cases t with
 |own c=>exact absurd rfl (j c)
 |_=>cases d<;>first|(cases (show(none:Option Bool)=some b from e))|(have h:=O2 e;subst h;(first|rfl|decide +kernel))
def AM (J:RelM fa X.K μ H M)(h:Rep fa X.K μ H d v)(e:fY t d=some b)(I:Inv X pins σ H s)(r:RelV v u)
 (j:PySem.W.kitOne X.K (.type (Mz d)) c=some b) (q:∀tk,Q (.bool b) {s with toks:=tk}):wpAny (model X.prog X.w) X.A (call (.builtin "isinstance") [u,c]) Q X.xe s:=by
 cases d with
 |non=>obtain rfl:v=.non:=h;exact jr I r .non j q
 |bl x=>obtain rfl:v=.bl x:=h;exact jr I r (.bl x) j q
 |int x=>obtain rfl:v=.int x:=h;exact jr I r (.int x) j q
 |str x=>obtain rfl:v=.str x:=h;exact jr I r (.str x) j q
 | tup F =>
   obtain⟨a,O,rfl,B,_⟩:=h;obtain rfl:u=Value.ref a:=r;obtain⟨E,L,⟨o,h1,h2,_⟩,_⟩:=I.tuple B;exact Qd PySem.W.kitx_tuple I.kIn ⟨o,h1,h2⟩ j (λz=>nomatch z) q
 | lst F =>
   obtain⟨a,O,rfl,B,_⟩:=bA J h rfl;obtain rfl:u=Value.ref a:=r;obtain⟨E,L,⟨o,n,h1,h2,_⟩,_⟩:=I.list B;exact Qd PySem.W.kitx_list I.kIn ⟨o,h1,h2⟩ j (λz=>nomatch z) q
 | frz F =>
   obtain⟨a,O,rfl,B,_⟩:=bA J h rfl;obtain rfl:u=Value.ref a:=r;obtain⟨E,L,⟨o,n,h1,h2,_⟩,_⟩:=I.list B;exact Qd PySem.W.kitx_list I.kIn ⟨o,h1,h2⟩ j (λz=>nomatch z) q
 | cell k =>
   obtain⟨a,rfl,hk⟩:=h;obtain⟨F,O,_,B,_⟩:=J.mu_lt hk;obtain rfl:u=Value.ref a:=r;obtain⟨E,L,⟨o,n,h1,h2,_⟩,_⟩:=I.list (c9.of B);exact Qd PySem.W.kitx_list I.kIn ⟨o,h1,h2⟩ j (λz=>nomatch z) q
 |fn f=>cases e
 |exc y p=>cases e
def La (fa:Fa)(K:OU)(t:Ty):List V->Hp->VK->Prop:=λh H Q=>∃μ M d v b,h=[v,.ty (tyName t)]/\RelM fa K μ H M/\Rep fa K μ H d v/\fY t d=some b/\Q (.bl b) H
def Jy (t:Ty)(y:∀c,t≠.own c):cu X (.builtin "isinstance") (La fa X.K t):=by
 intro pins s σ H xs B Q I r h;obtain⟨μ,M,d,v,b,rfl,j,z,e,q⟩:=h;obtain⟨u,w,rfl,r1,r2⟩:=vals2 r;obtain rfl:w=Value.type (tyName t):=r2;exact AM j z e I r1 (KN t d b y e) λtk=>{.bl b,H,I.tok _,rfl,q}
end
section
variable{fa:Fa}{X:Cx}
abbrev DE (fa:Fa)(X:Cx)(e:Expr)(g:Env->Mem->Res D):Prop:=PE X e (tE fa X.K g)
abbrev DT (fa:Fa)(X:Cx)(e:Expr)(g:Env->Mem->Res Bool):Prop:=PT X e (tT fa X.K g)
abbrev DW (fa:Fa)(X:Cx)(e:Expr)(g:Env->Mem->Res Bool):Prop:=PW X e (tT fa X.K g)
abbrev DA (fa:Fa)(X:Cx)(es:List Expr)(g:Env->Mem->Res (List D)):Prop:=PA X es (tA fa X.K g)
abbrev DS (fa:Fa)(X:Cx)(st:Stmt)(g:Env->Mem->Res Fl):Prop:=PS X st (tF fa X g)
abbrev j7 (fa:Fa)(X:Cx)(st:List Stmt)(g:Env->Mem->Res Fl):Prop:=j5 X st (tF fa X g)
variable{a b d:Expr}{ga gb gd:Env->Mem->Res D}{pos:Pos}
def LV {i:Nat}(B:X.N[i]?=some x)(E:wb X.env.scope x)(hd:(x==("__debug__":Str))=false)(j:(x==("__classdict__":Str))=false) :
 DE fa X (.Name x pos) (λZ M=>bL M (Z[i]?.getD none)):=bq (y4 B E hd j) λI H Q ⟨F,Z,M,y,z,h⟩=>by
 obtain⟨d,e,w⟩:=iG h;have u:Z[i]?=some (some d):=by
  cases q:Z[i]? with
  |none=>rw[q] at e;cases e
  |some o=>rw[q] at e;simp at e;rw[e]
 obtain⟨v,h1,h2⟩:=y.at' i d u;exact{v,h1,aP z w h2}
def iK (h:PE X e (tC v))(r:∀μ H,Rep fa X.K μ H dc v):DE fa X e (λ_ M=>.ok dc M):=bq h λz H Q ⟨μ,y,M,u,j,h⟩=>aP j h (r μ H)
def L6 {i:Int}:DE fa X (.Constant (.int i) j pos) (λ_ M=>.ok (.int i) M):=iK y8 λ_ _=>rfl
def Ol:DE fa X (.Constant (.bool i) j pos) (λ_ M=>.ok (.bl i) M):=iK Lh λ_ _=>rfl
def LX:DE fa X (.Constant (.str i) j pos) (λ_ M=>.ok (.str i) M):=iK Ik λ_ _=>rfl
def L1:DE fa X (.Constant .none j pos) (λ_ M=>.ok .non M):=iK Io λ_ _=>rfl
def t2 {Q:Type}{f:D->D->Mem->Res Q}{P:Q->Mem->Prop}{R:V->V->Hp->Prop}(S:bb fa X.K μ H σ Z)(U:RelM fa X.K μ H M)
 (h:ae ((ga Z M).bind λx M=>(gb Z M).bind λy M=>f x y M) P)
 (k:∀x y B v u z j,Ext μ H j z->bb fa X.K j z σ Z->RelM fa X.K j z B->Rep fa X.K j z x v->Rep fa X.K j z y u->ae (f x y B) P->R v u z) :
 tE fa X.K ga σ H λv L=>tE fa X.K gb σ L λu z=>R v u z:=
 t1 S U h λx M1 v L Y W E I r1 h1=>t1 E I h1 λy B u z j O F J r2 h2=>k x y B v u z j (W.trans O) F J (r1.ext O) r2 h2
def Mc (m:Bool)(o:rB)(J:DE fa X a ga)(L:DE fa X b gb):DE fa X (.BinOp a (binOp o) b pos) (λZ M=>(ga Z M).bind λx M=>(gb Z M).bind λy M=>gg m o x y M):=
 bq (Lf (Mr m o) J L) λS H Q ⟨R,Z,M,E,I,h⟩=>t2 E I h λx y B v u P z O F j r1 r2 h2=>{z,B,x,y,j,r1,r2,jR h2 O}
def oG {P:D->Mem->Prop}(h:ae ((bL M r).bind λb M=>.ok (.bl b) M) P):∃b,r=some b/\P (.bl b) M:=by
 obtain⟨b,j,e,q⟩:=ax h;cases r with
 |none=>cases e
 |some u=>cases e;exact{_,rfl,q}
def Ma (O:Rm X)(o:jC)(J:DE fa X a ga)(L:DE fa X b gb)(hm:behindInMarks (ec o) b=false) :
 DE fa X (.Compare a [ec o] [b] pos) (λZ M=>(ga Z M).bind λx M=>(gb Z M).bind λy M=>(bL M (bB o x y M)).bind λb M=>.ok (.bl b) M):=
 bq (pR (mP O o) J L hm) λU H Q ⟨S,Z,M,E,I,h⟩=>t2 E I h λx y B v u R z P F j r1 r2 h2=>by
  obtain⟨b,e,q⟩:=oG h2;exact{z,B,x,y,b,j,r1,r2,e,aP j (q.ext P) rfl}
def JM (W:Rm X)(o:jC)(S:DE fa X a ga)(U:DE fa X b gb)(hm:behindInMarks (ec o) b=false) :
 DT fa X (.Compare a [ec o] [b] pos) (λZ M=>((ga Z M).bind λx M=>(gb Z M).bind λy M=>(bL M (bB o x y M)).bind λb M=>.ok (.bl b) M).bind λx M=>bL M (jE M x)):=
 jP (pO (mP W o) S U hm) λσ H Q ⟨μ,Z,M,O,R,h⟩=>by
  obtain⟨z,I,e,q⟩:=ax h;have L:ae ((ga Z M).bind λx M=>(gb Z M).bind λy M=>(bL M (bB o x y M)).bind λb M=>.ok (.bl b) M) (λd M=>d=z/\M=I):=by rw[e];exact⟨rfl,rfl⟩
  refine t2 O R L λx y F v u E B Y P j r1 r2 h2=>?_;obtain⟨b,e1,e2,J⟩:=oG h2;subst e2 J;exact{B,F,x,y,b,j,r1,r2,e1,b,rfl,q E B Y j}
def EE (F:∀Z M x M',g Z M=.ok x M'->∃k,x=.bl k)(h:tT fa X.K (λZ M=>(g Z M).bind λx M=>bL M (jE M x)) σ H Q) :
 tE fa X.K g σ H (λx u=>∃k,x=.bl k/\Q k u):=by
 obtain⟨L,Z,M,B,E,h⟩:=h;obtain⟨x,z,e,q⟩:=ax h;obtain⟨k,rfl⟩:=F Z M x z e;refine{L,Z,M,B,E,?_};rw[e];intro v y j J I r1;obtain rfl:v=.bl k:=r1;exact{k,rfl,q y j J I}
def DH {o O:jC}{L:Env->Mem->Res D}(S:L2.St)(H:Hp)(Q:VK):tE fa X.K (λZ M=>(ga Z M).bind λx M=>(gb Z M).bind λy M=>(bL M (bB o x y M)).bind λk M=>
 if k then(L Z M).bind λz M=>(bL M (bB O y z M)).bind λb M=>.ok (.bl b) M else .ok (.bl false) M) S H Q->sk (fU fa X.K o) (fU fa X.K O) (tE fa X.K ga) (tE fa X.K gb) (tE fa X.K L) S H Q:=λ⟨μ,Z,M,hE,hM,h⟩=>by
 refine t2 hE hM h λx y U v u H2 I P F j r1 r2 h2=>?_;obtain⟨k,M3,e,q⟩:=ax h2;cases E:bB o x y U with
 |none=>rw[E] at e;cases e
 | some k' =>
   rw[E] at e;cases e;refine{I,_,x,y,k,j,r1,r2,E,k,rfl,?_};cases k with
   |false=>exact aP j (aZ.ext q P) rfl
   | true =>
     refine t1 F j q λz W w H4 J R hE4 B r4 h4=>?_;obtain⟨b,Y,q4⟩:=oG h4;exact{J,W,y,z,b,B,r2.ext R,r4,Y,aP B (q4.ext (P.trans R)) rfl}
def Mb (j:Rm X)(o h:jC)(u:DE fa X a ga)(v:DE fa X b gb)(B:DE fa X d gc)(hm:lastMarks [ec o,ec h] [b,d]=false) :
 DE fa X (.Compare a [ec o,ec h] [b,d] pos) (λZ M=>(ga Z M).bind λx M=>(gb Z M).bind λy M=>(bL M (bB o x y M)).bind λk M=>
  if k then(gc Z M).bind λz M=>(bL M (bB h y z M)).bind λb M=>.ok (.bl b) M else .ok (.bl false) M):=bq (Bt (mP j o) (mP j h) u v B hm) DH
def Bw {x:D}(h:((bL M r).bind λb M=>Res.ok (.bl b) M)=.ok x M'):∃k,x=.bl k:=by
 cases r with
 |none=>cases h
 |some b=>cases h;exact⟨b,rfl⟩
def ez {j u:Type}{r:Res j}{f:j->Mem->Res u}{x:u}(h:r.bind f=.ok x M):∃a M1,r=.ok a M1/\f a M1=.ok x M:=by
 cases r with
 |ok a M1=>exact⟨a,M1,rfl,h⟩
 |err=>cases h
 |bad=>cases h
def JN (v:Rm X)(o j:jC){u:Env->Mem->Res D}(B:DE fa X a ga)(E:DE fa X b gb)(F:DE fa X d u)(hm:lastMarks [ec o,ec j] [b,d]=false) :
 DT fa X (.Compare a [ec o,ec j] [b,d] pos) (λZ M=>((ga Z M).bind λx M=>(gb Z M).bind λy M=>(bL M (bB o x y M)).bind λk M=>
  if k then(u Z M).bind λz M=>(bL M (bB j y z M)).bind λb M=>.ok (.bl b) M else .ok (.bl false) M).bind λx M=>bL M (jE M x)):=
 jP (Bn (mP v o) (mP v j) B E F hm) λI H Q h=>DH I H _ (EE (λZ M x J e=>by
  obtain⟨S,L,_,e⟩:=ez e;obtain⟨U,O,_,e⟩:=ez e;obtain⟨k,P,_,e⟩:=ez e;cases k with
  |false=>cases e;exact{_,rfl}
  | true =>
    obtain⟨W,R,_,e⟩:=ez e;exact Bw e) h)
def L3 (B:DE fa X a ga):DE fa X (.UnaryOp .USub a pos) (λZ M=>(ga Z M).bind λx M=>match x with|.int i=>.ok (.int (-i)) M|_=>.bad):=
 bq (Ld G5 B) λO H Q ⟨L,Z,M,u,z,h⟩=>t1 u z h λx J v I F E y j r1 h1=>by
  cases x with
  |int i=>exact{i,r1,aP j (aZ.ext h1 E) rfl}
  |_=>exact h1.elim
def Me {rest:List Expr}(I:DE fa X a ga)(J:DE fa X (.BoolOp .And (b::rest) pos) gb):DE fa X (.BoolOp .And (a::b::rest) pos) (λZ M=>(ga Z M).bind λx M=>match x with
 |.bl true=>gb Z M
 |.bl false=>.ok (.bl false) M
 |_=>.bad):=
 bq (Ir I J) λP H Q ⟨O,Z,M,E,F,h⟩=>t1 E F h λx B v L y z u j r1 h1=>by
  cases x with
  | bl k =>
    refine{k,r1,?_};cases k with
    |true=>exact{y,Z,B,u,j,jR h1 z}
    |false=>exact aP j (aZ.ext h1 z) rfl
  |_=>exact h1.elim
def Oj {rest:List Expr}(I:DE fa X a ga)(J:DE fa X (.BoolOp .Or (b::rest) pos) gb):DE fa X (.BoolOp .Or (a::b::rest) pos) (λZ M=>(ga Z M).bind λx M=>match x with
 |.bl true=>.ok (.bl true) M
 |.bl false=>gb Z M
 |_=>.bad):=
 bq (Le I J) λP H Q ⟨O,Z,M,E,F,h⟩=>t1 E F h λx B v L y z u j r1 h1=>by
  cases x with
  | bl k =>
    refine{k,r1,?_};cases k with
    |true=>exact aP j (aZ.ext h1 z) rfl
    |false=>exact{y,Z,B,u,j,jR h1 z}
  |_=>exact h1.elim
def DN (h:DE fa X a ga):DE fa X (.BoolOp op [a] pos) ga:=Il h
def LZ (B:DE fa X a ga):DE fa X (.UnaryOp .Not a pos) (λZ M=>(ga Z M).bind λx M=>match x with|.bl k=>.ok (.bl (!k)) M|_=>.bad):=
 bq (Im B) λO H Q ⟨L,Z,M,u,z,h⟩=>t1 u z h λx J v I F E y j r1 h1=>by
  cases x with
  |bl k=>exact{k,r1,aP j (aZ.ext h1 E) rfl}
  |_=>exact h1.elim
variable{ta tb:Env->Mem->Res Bool}
def F5 (h:DT fa X a ta):DW fa X (.BoolOp .And [a] pos) ta:=Fj h
def JI (h:DT fa X a ta):DW fa X (.BoolOp .Or [a] pos) ta:=H8 h
def MH {Q:Bool->Hp->Prop}(x:Ext μ H μ' H')(h:ae b' λb M'=>∀u j,Ext μ H j u->RelM fa X.K j u M'->Q b u):ae b' λb M'=>∀u j,Ext μ' H' j u->RelM fa X.K j u M'->Q b u:=
 aQ h λb M q u j y m=>q u j (x.trans y) m
def JJ {rest:List Expr}(I:DT fa X a ta)(J:DW fa X (.BoolOp .And (b::rest) pos) tb):DW fa X (.BoolOp .And (a::b::rest) pos) (λZ M=>(ta Z M).bind λk M=>if k then tb Z M else .ok false M):=
 yU (H9 I J) λO H Q ⟨L,Z,M,E,F,h⟩=>u2 E F h λk B z u y v j h1=>by
  cases k with
  |true=>exact{u,Z,B,v,j,MH y h1}
  |false=>exact h1 z u y j
def LP {rest:List Expr}(I:DT fa X a ta)(J:DW fa X (.BoolOp .Or (b::rest) pos) tb):DW fa X (.BoolOp .Or (a::b::rest) pos) (λZ M=>(ta Z M).bind λk M=>if k then .ok true M else tb Z M):=
 yU (Lc I J) λO H Q ⟨L,Z,M,E,F,h⟩=>u2 E F h λk B z u y v j h1=>by
  cases k with
  |true=>exact h1 z u y j
  |false=>exact{u,Z,B,v,j,MH y h1}
def JK (E:DT fa X a ta):DT fa X (.UnaryOp .Not a pos) (λZ M=>(ta Z M).bind λk M=>.ok (!k) M):=
 jP (Ib E) λL H Q ⟨J,Z,M,y,B,h⟩=>u2 y B h λk I v u F z j h1=>h1 v u F j
def B5 (F:DE fa X a ga)(he:∀whole,isTrue a X.env whole=(do let v <- whole;standAt a.pos;holding [v] (truthy v))):DT fa X a (λZ M=>(ga Z M).bind λx M=>bL M (jE M x)):=
 jP (Bm F he) λO H Q ⟨L,Z,M,z,E,h⟩=>t1 z E h λx J v y u I B j r1 h1=>by
  obtain⟨k,e,q⟩:=iG h1;exact{k,Nf j r1 e,q y u I j}
def L5 (J:DT fa X c gc)(F:DE fa X a ga)(I:DE fa X b gb):DE fa X (.IfExp c a b pos) (λZ M=>(gc Z M).bind λk M=>if k then ga Z M else gb Z M):=
 bq (sW J F I) λP H Q ⟨O,Z,M,B,E,h⟩=>u2 B E h λk y L v z j u h1=>by
  cases k with
  |true=>exact{v,Z,y,j,u,jR h1 z}
  |false=>exact{v,Z,y,j,u,jR h1 z}
def L7 (J:DE fa X a ga)(L:DE fa X b gb)(hs:fP b):DE fa X (.Subscript a b pos) (λZ M=>(ga Z M).bind λx M=>(gb Z M).bind λy M=>bL M (da x y M)):=
 bq (ow DJ J L hs) λS H Q ⟨R,Z,M,E,I,h⟩=>t2 E I h λx y B v u P z O F j r1 r2 h2=>by
  obtain⟨d,e,q⟩:=iG h2;exact{z,B,x,y,d,j,r1,r2,e,q.ext O}
def DO (fa:Fa)(X:Cx)(e:Option Expr)(z:Bool)(g:Env->Mem->Res D):Prop:=PO X e λB H Q=>∃u v M,bb fa X.K u H B v/\RelM fa X.K u H M/\ae (g v M) λd y=>∃o,d4 z d=true/\oz d=some o/\∀j h,Ext u H h j->RelM fa X.K h j y->Q o j
def Gb:DO fa X none false (λ_ M=>.ok .non M):=λh s v H Q I ⟨u,z,M,y,j,o,_,e,k⟩=>by
 cases e;exact Fq h s v H Q I (k H u .refl j)
def Ga (E:DE fa X a ga):DO fa X (some a) true ga:=λj s L H Q I ⟨F,J,M,z,B,h⟩=>Fp E j s L H Q I {F,J,M,z,B,aQ h λd O ⟨o,p,e,k⟩ v y u x m r=>by
 cases d with
 |int i=>cases e;exact{i,r,k y u x m}
 |_=>cases p}
def part_of {d:D}(h:d4 hp d=true):∃o,oz d=some o:=by
 cases hp<;>cases d<;>first|exact{_,rfl}|cases h
set_option tactic.hygienic true in
def LY (m hl hh:Bool){lo hi:Option Expr}(ha:DE fa X a ga)(F:DO fa X lo hl gl)(E:DO fa X hi hh gh):DE fa X (.Subscript a (.Slice lo hi none p2) pos)
 (λZ M=>(ga Z M).bind λx M=>(gl Z M).bind λl M=>(gh Z M).bind λh M=>if d4 hl l&&d4 hh h then cQ m x l h M else .bad):=
 bq (Br (E2 m) ha F E) λσ H Q ⟨μ,Z,M,hE,hM,h⟩=>t1 hE hM h λx U v H1 J x1 j y r1 h1=>by
  obtain⟨l,W,e2,h2⟩:=ax h1;obtain⟨u,Y,e3,h3⟩:=ax h2;split at h3
  ·next c=>
   rw[O3] at c;obtain⟨ol,P⟩:=part_of c.1;obtain⟨ou,R⟩:=part_of c.2;refine{J,Z,U,j,y,?_};rw[e2];refine{ol,c.1,P,λH2 L I z=>{L,Z,W,j.ext I,z,?_}};rw[e3];exact{ou,c.2,R,λH3 O S B=>{O,Y,x,l,u,B,(r1.ext I).ext S,P,R,jR h3 ((x1.trans I).trans S)}}
  ·exact h3.elim
def J5:DA fa X [] (λ_ M=>.ok [] M):=zd eB λz H Q ⟨u,y,M,v,j,h⟩=>h [] H u .refl j rfl
def Gm (P:DE fa X a ga)(hs:DA fa X es gs)(I:starEach (a::es) X.env=(false,eval a X.env)::starEach es X.env) :
 DA fa X (a::es) (λZ M=>(ga Z M).bind λx M=>(gs Z M).bind λxs M=>.ok (x::xs) M):=
 zd (cU P hs I) λσ H Q ⟨μ,Z,M,J,O,h⟩=>t1 J O h λx W v U S R j u r1 h1=>qB j u h1 λxs Y B F z E L y r2 h2=>h2 (v::B) F z (R.trans E) y {v,B,rfl,r1.ext E,r2}
set_option tactic.hygienic true in
def LW (hs:DA fa X es gs):DE fa X (.Tuple es k pos) (λZ M=>(gs Z M).bind kv):=
 bq (Ij hs) λL H Q ⟨J,Z,M,u,y,h⟩=>qB u y h λxs F I E B z v j r1 h1=>by
  unfold kv at h1;split at h1
  ·next c=>exact{by rw[r1.length,<- dm];exact c,iN j r1 (aZ.ext h1 z)}
  ·exact h1.elim
def L4 (m:Bool)(hs:DA fa X es gs):DE fa X (.List es pos) (λZ M=>(gs Z M).bind (a7 m)):=
 bq (Ip hs) λL H Q ⟨J,Z,M,u,y,h⟩=>qB u y h λxs F I E B z v j r1 h1=>by
  obtain⟨c,k⟩:=gq j r1 (jR h1 z);exact{by rw[r1.length,<- dm];exact c,k}
end
def qU (o:Obj)(f:Array OX->Array OX):(o.mapFields f).dict=o.dict:=by
 obtain⟨c,d,h,sl⟩:=o;cases h<;>rfl
section
variable{P:PH}{w:PC}{M:Model}{A:Qx}{E:OX->O0->Prop}{base:Heap}{env:Qu}{outer:List Qu}{L a C:Addr}{dx:Option Addr}{New:Addr->Prop}{H:Hp}{s:O0}{Q:Unit->O0->Prop}
def uZ (hfr:A.frames=some (env::outer))(hl:s.heap.FunFrames base (env::outer))(hf:env.frame=some L)
 (he:s.heap.get? a=some oe) (hd:oe.data=.fields vs) (hsz:1<vs.size)
 (h:∀S T oT ts,(∀b o,b∉fo (env::outer)->b≠a->s.heap.get? b=some o->S.get? b=some o)->(∀b o,b≠a->s.heap.get? b=some o->∃sl,S.get? b=some {o with slots:=sl})->s.heap.objs.size<=T->T≠a->
  S.get? a=some (oe.mapFields (·.setIfInBounds 1 (.ref T)))->S.get? T=some oT->oT.data=.fields ts->ts[3]?=some .none->Q () {s with heap:=S}) :
 wpAny M A (do let f <- frameOf env;let pl <- entryPlaceOf L had;let b <- EntryCells.newEntry head f .none (rawInt L) .none pl;setField (.ref a) 1 b) (λ_ s'=>wpAny M A (setFlight (.ref a) none) Q E s') E s:=by
 have U:a∉fo (env::outer):=λhm=>by
  obtain⟨_,o,ho,hnf⟩:=hl.mem hm;rw[he] at ho;cases ho;exact hnf vs hd
 refine tqa (wpAny_frameOf_fun hfr hl hf λj v=>?_);refine tqa (wpAny_entryPlaceOf λpl W=>?_);refine tqa (wpAny_newObj_type ?_ (W.sizeOk5 _ _ _ _ _));have F:j.get? a=some oe:=(v.2.1 a U).trans he;generalize ho:({cls:=.type "traceback",dict:=none,data:=.fields ([head,.ref L,.none,rawInt L,.none]++(if pl.isEmpty then List.replicate 6 Value.none else pl)).toArray}:Obj)=o;have O:o.data=.fields ([head,.ref L,.none,rawInt L,.none]++(if pl.isEmpty then List.replicate 6 Value.none else pl)).toArray:=by rw[<- ho]
 have I:=OW o F;refine wpAny_setField I hd hsz ?_;have R:=PX (Pe F);have B:=QU hd (·.setIfInBounds 1 (Value.ref j.objs.size));have J:=QG (Obj.mapFields (·.setIfInBounds 1 (Value.ref j.objs.size))) I (Obj.isFreed_of_fields B);have y:=(QD (j.push o) (Obj.mapFields (·.setIfInBounds 1 (Value.ref j.objs.size))) (Qk R)).trans (Ph j (Obj.isFreed_of_fields O));refine tqa (tqf J B (x:=.ref j.objs.size) (by simp[hsz]) ?_)
 rw[if_pos `s]
 refine wpAny_setField y O (by simp only[O7,O9,PD,List.length_nil]<;>omega) ?_
 have keep:∀b u,b≠a->j.get? b=some u->(((j.push o).update a (Obj.mapFields (·.setIfInBounds 1 (Value.ref j.objs.size)))).update j.objs.size (Obj.mapFields (·.setIfInBounds 3 ((none:Option Addr).elim Value.none λf=>rawInt f)))).get? b=some u:=λb u z Y=>by
  have hbT:=PX (Pe Y);rw[QD _ _ hbT,QD _ _ (Qk z)];exact OW _ Y
 refine h _ j.objs.size _ _ (λb u Y z q=>keep b u z ((v.2.1 b Y).trans q)) (λb u z q=>?_) (Nat.le_of_eq v.1.symm) R ?_ (QG _ y (Obj.isFreed_of_fields (QU O _))) (QU O _) ?_
 ·obtain⟨sl,e⟩:=v.2.2 b u q;exact{sl,keep b _ z e}
 ·rw[QD _ _ R];exact J
 ·first|(simp;done)|(rcases W with rfl|⟨_,_,_,_,_,_,_,rfl⟩<;>simp)
def vq (hfr:A.frames=some (env::outer))(hl:s.heap.FunFrames base (env::outer))(hf:env.frame=some L)(hF:mj New C dx a s.heap H)(hN:∀b,s.heap.objs.size<=b->New b)(hok:dX P w H s.heap)(J:∀b∈fo (env::outer),H b=none)
 (h:∀B ch,(∀b∈ch,New b/\H b=none/\∃o vs,s.heap.get? b=some o/\o.data=.fields vs)->Un (fo (env::outer)) ch H H s.heap B->dX P w H B->mj New C dx a B H->Q () {s with heap:=B}) :
 wpAny M A (noteFrame (.ref a) env) (λ_ s1=>wpAny M A (setFlight (.ref a) none) Q E s1) E s:=by
 obtain⟨na,ha,oe,vs,he,hc,Y,hd,tr⟩:=hF;have U:∀B ch,(∀b∈ch,New b/\H b=none/\∃o vs,s.heap.get? b=some o/\o.data=.fields vs)->(∀b o,b∉fo (env::outer)->b∉ch->s.heap.get? b=some o->B.get? b=some o)->(∀b o,b∉ch->s.heap.get? b=some o->∃sl,B.get? b=some {o with slots:=sl})->mj New C dx a B H->Q () {s with heap:=B}:=λB ch W keep slot fl=>by
  refine h B ch W {λb o q _ j F=>keep b o j F q,λb o q _ _ F=>slot b o F q,λ_ _ _ n _=>n,λb o q F=>let⟨sl,e⟩:=slot b o F q;{_,e},λ_ _ e=>e,λ_ _ _ e=>e,λb ps e=>{#[],by rw[e];simp}} (λb u e=>(hok b u e).stay (λc v hc q=>?_) (λ_ q=>q) λ_ _ q=>q) fl
  have nn:H c≠none:=by rcases hc with z|z<;>(intro z';first|(rw[z,e] at z';cases z')|(rw[z] at z';cases z'))
  exact keep c v (λz=>nn (J c z)) (λz=>nn (W c z).2.1) q
 unfold noteFrame;simp only[hf];rcases tr with h1|⟨T,oT,ts,h1,hTa,nT,hT0,hT,I,h3⟩
 ·refine tqa (tqf he hd h1 ?_);rw[if_neg `d]
  refine uZ hfr hl hf he hd (QC.mp h1).1 λB T oT ts k1 k2 R k4 k5 k6 k7 k8=>?_;refine U B [a] (λb j=>?_) (λb o j F q=>k1 b o j (λz=>F (by simp[z])) q) (λb o F q=>k2 b o (λz=>F (by simp[z])) q) {na,ha,_,_,k5,?_,?_,QU hd _,.inr {T,oT,ts,by simp[(QC.mp h1).1],k4,hN _ R,hok.fresh R,k6,k7,k8}}
  ·rcases Pr.mp j with rfl
   exact⟨na,ha,oe,vs,he,hd⟩
  ·rw[Obj.cls_mapFields];exact hc
  ·rw[qU];exact Y
 ·refine tqa (tqf he hd h1 ?_);rw[if_pos `s]
  refine tqa (tqf hT I h3 ?_);rw[if_neg (by simp[rawInt])]
  refine tqa (wpAny_setField hT I (QC.mp h3).1 ?_);have y:∀b,b≠T->(s.heap.update T (Obj.mapFields (·.setIfInBounds 3 Value.none))).get? b=s.heap.get? b:=λb j=>QD _ _ (Qk j);have S:∀b o,s.heap.get? b=some o->(∀vs,o.data≠.fields vs)->b≠T:=λb o j O q=>by
   rw[q,hT] at j;cases j;exact O ts I
  have hz:(s.heap.update T (Obj.mapFields (·.setIfInBounds 3 Value.none))).objs.size=s.heap.objs.size:=Heap.size_after_update ..;refine uZ hfr (hl.of_keeps λb o j O=>{o,(y b (S b o j O)).trans j,rfl}) hf ((y a (Qk hTa)).trans he) hd (QC.mp h1).1 λB T' oT' ts' k1 k2 R k4 k5 k6 k7 k8=>?_;have R:s.heap.objs.size<=T':=by rw[<- hz];exact R
  refine U B [a,T] (λb j=>?_) (λb o j F q=>k1 b o j (λz=>F (by simp[z])) ((y b (λz=>F (by simp[z]))).trans q)) (λb o F q=>k2 b o (λz=>F (by simp[z])) ((y b (λz=>F (by simp[z]))).trans q)) {na,ha,_,_,k5,?_,?_,QU hd _,.inr {T',oT',ts',by simp[(QC.mp h1).1],k4,hN _ R,hok.fresh R,k6,k7,k8}}
  ·rcases PJ.mp j with rfl|j
   ·exact⟨na,ha,oe,vs,he,hd⟩
   ·rcases Pr.mp j with rfl
    exact⟨nT,hT0,oT,ts,hT,I⟩
  ·rw[Obj.cls_mapFields];exact hc
  ·rw[qU];exact Y
end
def ib (P:PH)(w:PC):uP:=λouter H s E e s'=>∃a C dx H',e=.ref a/\s'.os=s.os/\AllBare s'.gens/\Un (fo outer) [] H H' s.heap s'.heap/\dX P w H' s'.heap/\mj (λb=>s.heap.get? b=none) C dx a s'.heap H'/\E (.ref C) dx H'
def mj.imp (f:mj New C dx a h H)(i:∀b,New b->New' b):mj New' C dx a h H:=by
 obtain⟨u,j,o,F,h1,h2,h3,h4,B⟩:=f;refine{i _ u,j,o,F,h1,h2,h3,h4,?_};rcases B with t|⟨T,v,ts,t1,t2,y,z⟩
 ·exact .inl t
 ·exact .inr {T,v,ts,t1,t2,i _ y,z}
section
variable{P:PH}{w:PC}{K:OU}{mg:Str->Option OX}{base:Heap}{N:List Str}{qual:Str}{scope:Scope}{f:Addr}{cd:OX}{A:Qx}{outer:List Qu}{s:O0}{H:Hp}{E:XK}
def BF (I:Inv (fF (ib P w) P w K mg base N qual scope f cd A outer s H E) pins σ H' s')(W:mj (xH (fF (ib P w) P w K mg base N qual scope f cd A outer s H E)) C dx a s'.heap H')(U:E (.ref C) dx H') :
 (fF (ib P w) P w K mg base N qual scope f cd A outer s H E).xe (.ref a) s':=by
 have F:=I.stack;have J:=I.sz;have Y:∀b o,s.heap.get? b=some o->b∈fo (envOfC qual scope s.heap.objs.size f cd::outer)->b∈fo outer:=λb o q y=>by
  rcases PJ.mp (y) with e|e
  ·exact absurd (Pe q) (by rw[e];exact Qj _)
  ·exact e
 unfold fF;refine tqa (vq (New:=λb=>s.heap.get? b=none) I.ok.frames F rfl (W.imp λb z=>z.1) (λb z=>Heap.get?_none_of_le (Pa J z)) I.hok I.stkFree λh' R B u hok fl=>?_);have v:∀b o,s.heap.get? b=some o->b∉R:=λb o q z=>by have:=(B b z).1;rw[q] at this;cases this
 have h:=I.base;refine{a,C,dx,H',rfl,I.os,I.bare,{λb o q n y j=>?_,λb o q n y j=>?_,h.free,λb o q j=>?_,h.tups,h.frzs,h.tbls},hok,fl,U}
 ·exact u.keep b o (h.keep b o q n y j) (h.free b o q n j) (λz=>y (Y b o q z)) (v b o q)
 ·obtain⟨sl,e⟩:=h.slot b o q n y j;obtain⟨O,S⟩:=u.any e (h.free b o q n j) (v b o q);exact⟨O,S⟩
 ·obtain⟨o',e⟩:=h.there b o q j;exact u.there b o' e (v b o q)
end
section
variable{X:Cx}{pins:List (Addr×Obj)}{σ:L2.St}{H H':Hp}{s s':O0}{E:XK}{e:OX}
def qQ (I:Inv X pins σ H s)(v:X.ex=[])(h:ib X.prog X.w X.stack H s E e s'):∃a C dx H',e=.ref a/\Inv X pins σ H' s'/\mj (xH X) C dx a s'.heap H'/\E (.ref C) dx H':=by
 obtain⟨a,C,dx,H',rfl,os,bare,un,hok,fl,q⟩:=h;refine{a,C,dx,H',rfl,I.call' os un hok bare (λb z=>absurd z `s),fl.imp λb z=>{?_,λp u e=>?_},q}
 ·cases e:X.s₀.heap.get? b with
  |none=>rfl
  | some o =>
    obtain⟨y,j⟩:=I.base.there b o e (by rw[v];simp)
    rw[z] at j;cases j
 ·have:=(I.pin p (Qh _ u)).1;rw[e,z] at this;cases this
def BR (I:Inv X pins σ H s)(j:∀b∈ch,X.s₀.heap.get? b=none/\(∃o vs,s.heap.get? b=some o/\o.data=.fields vs)/\∀p∈X.pn++pins,p.1≠b)(u:Un (fo X.stack) ch H H s.heap h')(hok:dX X.prog X.w H h'):Inv X pins σ H {s with heap:=h'}:=by
 obtain⟨m,⟨o,es,ep,ho,hd,r⟩,hl⟩:=id I.loc;have J:X.env.locals∉ch:=λz=>by
  obtain⟨R,vs,e,d⟩:=(j _ z).2.1;rw[ho] at e;cases e;rw[hd] at d;cases d
 have F:∀x c,X.env.cells.lookup x=some c->c∉ch:=λx c e z=>by
  obtain⟨R,vs,U,d⟩:=(j _ z).2.1;obtain⟨v,o2,e2,d2⟩:=I.cell x c e;rw[e2] at U;cases U;rw[d2] at d;cases d
 have n0:∀b o,X.s₀.heap.get? b=some o->b∉ch:=λb o e z=>by rw[(j b z).1] at e;cases e
 have O:∀b o,X.s₀.heap.get? b=some o->b∉X.fs->b∉fo X.stack:=λb o e n z=>(PJ.mp (I.stkSub b z)).elim (λq=>absurd (Pe e) (by rw[q];exact Nat.not_lt.mpr I.ok.above)) n
 obtain⟨sl,hL⟩:=u.any ho I.free J;have h:∀x c,X.env.cells.lookup x=some c->∀v,s.heap.IsCell c v->h'.IsCell c v:=λx c e v ⟨o,ho,hd⟩=>by
  obtain⟨sl,q⟩:=u.any ho (I.freeC x c e) (F x c e);exact{_,q,hd}
 refine{I.ok,I.os,I.bare,{λb o e n B y=>?_,λb o e n B y=>?_,I.base.free,λb o e y=>?_,I.base.tups,I.base.frzs,I.base.tbls},{m,{_,es,ep,hL,hd,r},λi x v e1 e2 e3=>?_},λx c e=>?_,I.free,I.freeC,λp W=>?_,hok,I.len}
 ·exact u.keep b o (I.base.keep b o e n B y) (I.base.free b o e n y) (O b o e B) (n0 b o e)
 ·obtain⟨sl,e1⟩:=I.base.slot b o e n B y;obtain⟨S,e2⟩:=u.any e1 (I.base.free b o e n y) (n0 b o e);exact⟨S,e2⟩
 ·obtain⟨R,e1⟩:=I.base.there b o e y;exact u.there b R e1 (n0 b o e)
 ·obtain⟨u',r',l⟩:=hl i x v e1 e2 e3;refine{u',r',?_};rcases l with l|⟨k,c,e,z⟩
  ·exact .inl l
  ·exact .inr {k,c,e,h x c e _ z}
 ·obtain⟨v,z⟩:=I.cell x c e;exact{v,h x c e v z}
 ·obtain⟨e,n,ne,Y,d⟩:=I.pin p W;exact{u.keep p.1 p.2 e n (λz=>(PJ.mp (I.stkSub _ z)).elim ne Y) λz=>(j _ z).2.2 p W rfl,n,ne,Y,d}
end
def dW {h:Type}(r:Res h)(k:h->Mem->Prop)(j:D->Mem->Prop):Prop:=match r with
 |.ok a M=>k a M
 |.err x M=>j x M
 |.bad=>False
def oE {j:Type}{r:Res j}{k:j->Mem->Prop}{u:D->Mem->Prop}(h:ae r k):dW r k u:=by
 cases r with
 |ok a M=>exact h
 |err=>exact h.elim
 |bad=>exact h
def D4 (fa:Fa)(K:OU)(μ:Mu)(H:Hp)(E:XK)(x:D)(M':Mem):Prop:=∀C dx c p H' h,Ext μ H h H'->RelM fa K h H' M'->x=.exc c p->fa (ft c)=some C->uJ H' c dx p->E (.ref C) dx H'
def oy:Passes (ib P w) X E0:=λ_ _ _ _ _ _ _ h=>let{_,_,_,_,_,_,_,_,_,_,z}:=h;z.elim
def yJ (fa:Fa)(K:OU)(k:Nat)(call:List D->Mem->Res D):Sp:=λu H Q E=>u.length=k/\∃h M j,RelM fa K h H M/\aB fa K h H j u/\dW (call j M) (aZ fa K h H Q) (D4 fa K h H E)
def eD (fa:Fa)(P:PH)(w:PC)(K:OU)(mg:Str->Option OX)(base:Heap)(n:Nat)(f:Nat)(call:List D->Mem->Res D):Prop:=
 (∀h M,call h M=.bad)\/∃(ad:Addr) (j:FuncData) (ps:List Str),fa f=some ad/\PySem.W.keepIn K (.ref ad)=true/\Binds K j ps []/\(∀h M,h.length≠ps.length->call h M=.bad)/\gJ P w K mg base (ib P w) (2*n+4) ad j ps (yJ fa K ps.length call)/\((fa (500+f)).isSome=true->Binds K j ps [.none])
section
variable{fa:Fa}{X:Cx}{a b d:Expr}{ga gb gd:Env->Mem->Res D}{pos p:Pos}{es:List Expr}{gs:Env->Mem->Res (List D)}{n:Nat}
def Ae {call:List D->Mem->Res D}{r:Res (List D)}(j:∀ds M,call ds M=.bad)(h:ae (r.bind λds M=>call ds M) P):False:=by
 obtain⟨ds,M,_,q⟩:=ax h;rw[j] at q;exact q
def qX {call:List D->Mem->Res D}(v:bb fa X.K μ H σ Z)(z:RelM fa X.K μ H M)(h:ae ((gs Z M).bind λds M=>call ds M) (aZ fa X.K μ H Q))
 (hk:∀ds M1,ds.length≠k->call ds M1=.bad):CT (yJ fa X.K k call) [] E0 (tA fa X.K gs) σ H Q:=by
 refine qB v z h λds M1 F E u B y j r1 h1=>?_;rw[Qr];refine{?_,u,M1,ds,j,r1,oE (jR h1 B)};rw[r1.length];by_cases hl:ds.length=k
 ·exact hl
 ·rw[hk ds M1 hl] at h1;exact h1.elim
def Kc {call:List D->Mem->Res D}(C:eD fa X.prog X.w X.K X.mg X.base n f call)(hr:bK (2*n+4) X.A)(E:Gl X x)(hm:∀ad,fa f=some ad->X.mg x=some (.ref ad))(hs:DA fa X (a::es) gs)
 (j:(x==("__debug__":Str))=false) (he:starEach (a::es) X.env=(false,eval a X.env)::starEach es X.env) (u:(backTo pos (starEach es X.env)).any (·.1)=false) :
 DE fa X (.Call (.Name x p) (a::es) [] pos) (λZ M=>(gs Z M).bind λds M=>call ds M):=by
 rcases C with B|⟨ad,O,ps,h1,h2,h3,h4,F,_⟩
 ·exact λz s L H Q I ⟨J,Z,M,v,y,h⟩=>(Ae B h).elim
 ·exact bq (Fv F hr E (hm ad h1) h2 h3 .nil oy hs j he u) λL H Q ⟨J,Z,M,v,y,h⟩=>qX v y h h4
def Gr {i:Nat}{x:Str}{call:Nat->List D->Mem->Res D}(C:∀f,eD fa X.prog X.w X.K X.mg X.base n f (call f))(hr:bK (2*n+4) X.A)(hN:X.N[i]?=some x)(hv:wb X.env.scope x)(hs:DA fa X (a::es) gs)
 (hd:(x==("__debug__":Str))=false) (z:(x==("__classdict__":Str))=false) (he:starEach (a::es) X.env=(false,eval a X.env)::starEach es X.env) (B:(backTo pos (starEach es X.env)).any (·.1)=false) :
 DE fa X (.Call (.Name x p) (a::es) [] pos) (λZ M=>match Z[i]?.getD none with|some (.fn f)=>(gs Z M).bind λds M=>call f ds M|_=>.bad):=by
 intro y s R H Q I ⟨μ,Z,M,P,hM,h⟩;dsimp only at h;cases e:Z[i]?.getD none with
 |none=>rw[e] at h;exact h.elim
 | some df =>
   cases df with
   | fn f =>
     rw[e] at h;have e':Z[i]?=some (some (.fn f)):=by
      cases q:Z[i]? with
      |none=>rw[q] at e;cases e
      |some o=>rw[q] at e;simp at e;rw[e]
     obtain⟨v,E,J⟩:=P.at' i _ e';obtain⟨ad,rfl,j⟩:=J;rcases C f with hb|⟨Y,fd,ps,h1,h2,h3,h4,F,_⟩
     ·exact(Ae hb h).elim
     ·rcases j with j|⟨j,_⟩<;>rw[j] at h1<;>cases h1
      refine wpAny_Call_Name_kw (aI (y4 hN hv hd z y s R H (λv S=>v=.ref ad/\S=H) I {_,E,rfl,rfl}) λu s1 ⟨v,U,L,r1,e1,e2⟩=>?_);subst e1 e2;obtain rfl:u=Value.ref ad:=r1;refine Q3 L.ok.mod.kin h2 (aI (hs pos y s1 R U _ L (qX P hM h h4)) λus s2 ⟨vs,H2,O,r,q⟩=>{O.kIn,?_}) he B;exact om F hr h3 .nil oy O r q
   |_=>rw[e] at h;exact h.elim
def xq (f:wh){id:String}(I:cu X (.builtin id) (ny fa X.K f))(J:Gl X x)(hm:X.mg x=none)(L:bootBuiltins x=some (.builtin id))(hs:DA fa X (a::es) gs)(hn:x≠"__name__")(u:(x==("__debug__":Str))=false)
 (he:starEach (a::es) X.env=(false,eval a X.env)::starEach es X.env) (v:(backTo pos (starEach es X.env)).any (·.1)=false):DE fa X (.Call (.Name x p) (a::es) [] pos) (λZ M=>(gs Z M).bind λds M=>ee f ds M):=
 bq (ko I J hm L hs hn u he v) λU H Q ⟨S,Z,M,B,F,h⟩=>qB B F h λds z R P y O E j r1 h1=>{y,z,ds,j,r1,jR h1 O}
def zU (f:wh)(I:cu X (.type T) (ny fa X.K f))(J:Gl X x)(hm:X.mg x=none)(L:bootBuiltins x=some (.type T))(hs:DA fa X (a::es) gs)(hn:x≠"__name__")(u:(x==("__debug__":Str))=false)
 (he:starEach (a::es) X.env=(false,eval a X.env)::starEach es X.env) (v:(backTo pos (starEach es X.env)).any (·.1)=false):DE fa X (.Call (.Name x p) (a::es) [] pos) (λZ M=>(gs Z M).bind λds M=>ee f ds M):=
 bq (y9 I J hm L hs hn u he v) λU H Q ⟨S,Z,M,B,F,h⟩=>qB B F h λds z R P y O E j r1 h1=>{y,z,ds,j,r1,jR h1 O}
def J8 (t:Ty)(R:∀c,t≠.own c)(O:DE fa X a ga)(P:Gl X "isinstance")(hm:X.mg "isinstance"=none)(S:bootBuiltins "isinstance"=some (.builtin "isinstance"))(y:Gl X x)(z:X.mg x=none)(B:bootBuiltins x=some (.type (tyName t)))
 (hn:x≠"__name__") (u:(x==("__debug__":Str))=false)
 (he:starEach [a,.Name x p1] X.env=(false,eval a X.env)::starEach [.Name x p1] X.env):DE fa X (.Call (.Name "isinstance" p2) [a,.Name x p1] [] pos) (λZ M=>(ga Z M).bind λx M=>(bL M (fY t x)).bind λb M=>.ok (.bl b) M):=
 bq (ko (Jy t R) P hm S (cU O (cU (Fw y z B (v:=.ty (tyName t)) rfl hn u) eB `r) he) `d `d he `r) λσ H Q ⟨Y,Z,M,I,L,h⟩=>t1 I L h λx F v W E U J j r1 h1=>by
  obtain⟨b,e,q⟩:=oG h1;exact{E,F,x,v,b,rfl,j,r1,e,aP j (q.ext U) rfl}
def gT (fa:Fa)(K:OU)(t:fg):TG:=λv z H Q=>∃u y M d h,bb fa K u H z y/\RelM fa K u H M/\Rep fa K u H d v/\bV t d y=some h/\∀j,bb fa K u H j h->Q j H
def sV (h:PG X tg g)(i:∀v y H Q,g' v y H Q->g v y H Q):PG X tg g':=λj s y H v u Q I r q=>h j s y H v u Q I r (i v y H Q q)
def vj (h:uL X tg g)(i:∀v y H Q,g' v y H Q->g v y H Q):uL X tg g':=λj s y H v u Q I r q=>h j s y H v u Q I r (i v y H Q q)
def Gj (u:X.N.Nodup)(hi:X.N[i]?=some x)(y:Loc X.env.scope x)(hf:X.fn x=true\/X.env.scope.names.lookup x=some .local):PG X (.Name x pos) (gT fa X.K (.one i)):=
 sV (pQ u hi y hf) λv I H Q ⟨E,F,M,d,z,j,B,r,e,k⟩=>by
  have h:=O2 e;subst h;exact k _ (j.set r)
def Jt (fa:Fa)(K:OU)(l:List Nat):wd:=λz B H Q=>∃u y M v h,bb fa K u H B y/\RelM fa K u H M/\aB fa K u H v z/\cg l v y=some h/\∀j,bb fa K u H j h->Q j H
inductive iA (X:Cx):List Nat->List Expr->Prop
 |nil:iA X [] []
 |cons {i:Nat}{x:Str}{p:Pos}{l:List Nat}{ns:List Expr} (hi:X.N[i]?=some x) (hx:Loc X.env.scope x) (hf:X.fn x=true\/X.env.scope.names.lookup x=some .local) (r:iA X l ns):iA X (i::l) (.Name x p::ns)
set_option tactic.hygienic true in
def iA.each (h:iA X l ns):(assignEach ns X.env).length=l.length/\(assignEach ns X.env).findIdx? (·.1)=none:=by
 induction h with
 |nil=>exact⟨rfl,rfl⟩
 | cons u v hf r j =>
   rename_i i x p l ns;have e:assignEach (.Name x p::ns) X.env=(false,assign (.Name x p) X.env)::assignEach ns X.env:=rfl;rw[e];refine{by simp[j.1],?_}
   rw[List.findIdx?_cons];simp[j.2]
def uc (I:X.N.Nodup)(h:iA X l ns):uL X ns (Jt fa X.K l):=by
 induction h with
 | nil =>
   refine vj vi λB R H Q ⟨E,P,M,j,u,y,z,r,e,k⟩=>?_;cases j with
   | nil =>
     obtain rfl:B=[]:=r;have F:=O2 e;subst F;exact{rfl,k _ y}
   |cons=>cases e
 | cons J L hf r O =>
   refine vj (nE (pQ I J L hf) O `r) λB R H Q ⟨E,P,M,j,u,y,z,r,e,k⟩=>?_
   cases j with
   |nil=>cases e
   | cons d j =>
     obtain⟨v,vr,rfl,r1,r2⟩:=r;exact{v,vr,rfl,E,_,M,j,u,y.set r1,z,r2,e,k}
def hX:∀{l:List Nat}{ds:List D}{Z ρ1:Env},cg l ds Z=some ρ1->ds.length=l.length
 |[],[],_,_,_=>rfl
 |_::_,[],_,_,h=>by cases h
 |[],_::_,_,_,h=>by cases h
 | _ :: l, _ :: ds, _, _, h => by
   have:=hX (ds:=ds) h;simp[this]
def J3 (E:X.calm=true)(B:X.N.Nodup)(h:iA X l ns):PG X (.Tuple ns k pos) (gT fa X.K (.tup l)):=
 sV (sU E (uc B h) h.each.1 h.each.2) λv O H Q ⟨J,L,M,d,j,y,z,r,e,k⟩=>by
  cases d with
  | tup u =>
    obtain⟨a,I,rfl,F,r⟩:=r;exact{a,I,rfl,F,by rw[r.length];exact hX e,J,L,M,u,j,y,z,r,e,k}
  |_=>cases e
set_option tactic.hygienic true in
def uz {d:D}(h:bV (.two j l) d Z=some ρ1):∃e ds,d=.tup [e,.tup ds]/\cg l ds (Z.set j (some e))=some ρ1:=by
 unfold bV at h;split at h
 ·next e=>cases e
 ·next e=>cases e
 ·next e=>cases e;exact{_,_,rfl,h}
 ·cases h
 ·cases h
def J2 (E:X.calm=true)(B:X.N.Nodup){ns:List Expr}(hi:X.N[i]?=some x)(R:Loc X.env.scope x)(hf:X.fn x=true\/X.env.scope.names.lookup x=some .local)(h:iA X l ns):PG X (.Tuple [.Name x px,.Tuple ns k2 p2] k pos) (gT fa X.K (.two i l)):=
 sV (sU E (nE (pQ B hi R hf) (nE (sU E (uc B h) h.each.1 h.each.2) vi))) λv σ H Q ⟨Y,Z,M,d,y,L,O,r,e,k⟩=>by
  obtain⟨I,J,rfl,e⟩:=uz e;obtain⟨a,vs,rfl,P,S,U,rfl,r0,v1,u,rfl,r1,r2⟩:=r;obtain rfl:u=[]:=r2;obtain⟨b,W,rfl,j,F⟩:=r1;exact{a,_,rfl,P,rfl,S,_,rfl,.ref b,[],rfl,b,W,rfl,j,by rw[F.length];exact hX e,Y,Z.set i (some I),M,J,y,L.set r0,O,F,e,λz h1=>{rfl,k z h1}}
end
section
variable{fa:Fa}{X:Cx}{a b d:Expr}{ga gb gd:Env->Mem->Res D}{pos p:Pos}{es:List Expr}{gs:Env->Mem->Res (List D)}{n:Nat}
def JU (O:DE fa X a ga)(P:PG X tg (gT fa X.K t))(hs:swapsWithSole [tg] a pos.line X.env=pure false)(Q:swappedStores [tg] a X.env=pure none)(h1:(assignEach [tg] X.env).map (·.2)=[assign tg X.env]) :
 DS fa X (.Assign [tg] a pos) (λZ M=>(ga Z M).bind λx M=>(bL M (bV t x Z)).bind λρ1 M=>.ok (.next ρ1) M):=
 cM (lF O P hs Q h1) λD Y H ⟨W,Z,M,J,L,h⟩=>t1 J L h λx I v F u R z j r1 h1=>by
  obtain⟨ρ1,U,e,q⟩:=ax h1;cases y:bV t x Z with
  |none=>rw[y] at e;cases e
  | some S =>
    rw[y] at e;cases e;exact{u,Z,I,x,ρ1,z,j,r1,y,λE B=>q E F u R B j}
def jh {y:Ends}{ad:Addr}(z:bb fa X.K μ H σ Z)(v:RelM fa X.K μ H M)(hk:μ.pub k=some ad)(r:aB fa X.K μ H ds ws)
 (q:∀j u h,Ext μ H h u->bb fa X.K h u j Z->RelM fa X.K h u (M.set k ds)->y.nx j u):y.nx σ (upd H ad (.lst ws)):=
 q σ _ μ (Ext.write (vs:=ws) v hk) (z.ext (Ext.write (vs:=ws) v hk)) (v.write hk r)
def JQ (ha:DE fa X a ga)(hb:DE fa X b gb)(hd:DE fa X d gd){p2:Pos}
 (h0:∀v,assign (.Subscript a b p2) X.env v=(do
  let B <- holding [v] (eval a X.env)
  let L <- holding [v,B] (eval b X.env)
  standAt p2
  holding [v,B,L] (setItem B L v)
  release [v,B,L] [])) (hs:swapsWithSole [.Subscript a b p2] d pos.line X.env=pure false) (hw:swappedStores [.Subscript a b p2] d X.env=pure none) (h1:(assignEach [.Subscript a b p2] X.env).map (·.2)=[assign (.Subscript a b p2) X.env]) :
 DS fa X (.Assign [.Subscript a b p2] d pos) (λZ M=>(gd Z M).bind λz M=>(ga Z M).bind λx M=>(gb Z M).bind λy M=>match x,y with
  | .cell k, .int n => match M[k]? with
    | some ds => match b6 ds.length n with
      |some j=>.ok (.next Z) (M.set k (ds.set j z))
      |none=>.bad
    |none=>.bad
  |_,_=>.bad):=
 cM (lF hd (y3 ha hb set_list h0) hs hw h1) λU σ H ⟨μ,Z,M,hE,hM,h⟩=>t1 hE hM h λz M1 v H1 μ1 x1 F J r1 h1=>t2 F J h1 λx y M2 vx vy Y μ2 S I u rx ry h2=>by
  have O:∀k n,x=.cell k->y=.int n->CZ vx vy v Y λH3=>U.nx σ H3:=λk n e1 e2=>by
   subst e1 e2;dsimp only at h2;cases e:M2[k]? with
   |none=>rw[e] at h2;exact h2.elim
   | some ds =>
     rw[e] at h2;dsimp only at h2;cases E:LD.b6 ds.length n with
     |none=>rw[E] at h2;exact h2.elim
     | some j =>
       rw[E] at h2;obtain⟨ad,rfl,hk⟩:=rx;obtain⟨ws,h4,R⟩:=u.at_ e hk;have q:=h2;refine{ad,ws,n,j,rfl,ry,h4,by rw[R.length];exact E,jh I u hk (R.set j (r1.ext S)) λQ W P x' e' m'=>q Q W P ((x1.trans S).trans x') e' m'}
  cases x with
  | cell k => cases y with
    |int n=>exact O k n rfl rfl
    |_=>exact h2.elim
  |_=>exact h2.elim
set_option tactic.hygienic true in
def JV (ha:DE fa X a ga)(hd:DE fa X d gd){j u:Pos}(v:attributeBase a "append" X.env (eval a X.env)=eval a X.env)(y:(j.endLine==u.line)=true)(hs:starEach [d] X.env=[(false,eval d X.env)])
 (O:swapsWith (.Call (.Attribute a "append" j) [d] [] u) none pos.line X.env=pure false) :
 DS fa X (.Expr (.Call (.Attribute a "append" j) [d] [] u) pos) (λZ M=>(ga Z M).bind λx M=>(gd Z M).bind λz M=>match x with
  | .cell k => match M[k]? with
    |some ds=>if ds.length<sz then .ok (.next Z) (M.set k (ds++[z])) else .bad
    |none=>.bad
  |_=>.bad):=
 cM (my (C1 PySem.F.plainAttrs_list PySem.F.slot_list_append PySem.F.type_list_append lJ ha (cU hd eB hs) v (by rw[hs];rfl) y hs `r) O) λD' σ H ⟨μ,Z,M,J,hM,h⟩=>by
  obtain⟨x,M1,e1,h1⟩:=ax h;obtain⟨z,M2,e2,h2⟩:=ax h1;cases x with
  | cell k =>
    dsimp only at h2;cases e:M2[k]? with
    |none=>rw[e] at h2;exact h2.elim
    | some ds =>
      rw[e] at h2;dsimp only at h2;split at h2
      ·next hz=>
       have q:=h2;refine{μ,Z,M,J,hM,?_};rw[e1];intro vx H1 S Q B rx;obtain⟨ad,rfl,hk⟩:=rx;obtain⟨ds1,P,_,L,_⟩:=B.mu_lt hk;refine{.inl {rfl,P,c9.of L},S,Z,M1,J.ext Q,B,?_};rw[e2];intro vz H2 μ2 I E rz;obtain⟨ws,h4,W⟩:=E.at_ e (I.mu k ad hk);refine{ad,ws,vz,rfl,rfl,h4,by rw[W.length,<- dm];exact hz,?_}
       exact jh ((J.ext Q).ext I) E (I.mu k ad hk) (W.append (.one rz)) λU Y R x' e' m'=>q U Y R ((Q.trans I).trans x') e' m'
      ·exact h2.elim
  |_=>exact h2.elim
def LQ (F:DE fa X a ga)(hs:swapsWith a none pos.line X.env=pure false):DS fa X (.Expr a pos) (λZ M=>(ga Z M).bind λ_ M=>.ok (.next Z) M):=
 cM (my F hs) λL J H ⟨P,Z,M,B,E,h⟩=>t1 B E h λx O v z y I j u r1 h1=>h1 J z y I j u
def JP (v:DE fa X a ga):DS fa X (.Return (some a) pos) (λZ M=>(ga Z M).bind λx M=>.ok (.ret x) M):=
 cM (yW v) λz E H ⟨y,Z,M,j,u,h⟩=>by
  obtain⟨x,B,e,q⟩:=ax h;refine{y,Z,M,j,u,?_};rw[e];exact q
def F6:DS fa X (.Return none pos) (λ_ M=>.ok (.ret .non) M):=cM Fn λu B H ⟨y,z,M,v,j,h⟩=>aP j h rfl
def F7:DS fa X (.Pass pos) (λZ M=>.ok (.next Z) M):=cM Fo λz y H ⟨v,Z,M,j,u,h⟩=>h y H v .refl j u
def JS {st:Stmt}:DS fa X st (λ_ _=>.bad):=λj s E H u I ⟨z,B,M,v,y,h⟩=>h.elim
set_option tactic.hygienic true in
def j6.ext (x:Ext μ H μ' H')(q:j6 fa X μ H D' fl M):j6 fa X μ' H' D' fl M:=by
 cases fl with
 |next u=>exact λv j h y e m=>q v j h (x.trans y) e m
 |ret d=>exact aZ.ext q x
 |exc z u=>exact XW.ext q x
def zf (x:Ext μ H μ' H')(h:ae r (j6 fa X μ H D')):ae r (j6 fa X μ' H' D'):=aQ h λfl M q=>q.ext x
def JR {st z:List Stmt}(I:DT fa X c gc)(J:j7 fa X st gt)(hf:j7 fa X z gf):DS fa X (.If c st z pos) (λZ M=>(gc Z M).bind λk M=>if k then gt Z M else gf Z M):=
 cM (C0 I J hf) λL Q H ⟨P,Z,M,E,F,h⟩=>u2 E F h λk y O v B j u h1=>by
  cases k with
  |true=>exact{v,Z,y,j,u,zf B h1}
  |false=>exact{v,Z,y,j,u,zf B h1}
def vV:j7 fa X [] (λZ M=>.ok (.next Z) M):=vg pP λz y H ⟨v,Z,M,j,u,h⟩=>h y H v .refl j u
set_option tactic.hygienic true in
def B6 {st:Stmt}(h1:DS fa X st g)(h2:j7 fa X ss g'):j7 fa X (st::ss) (λZ M=>(g Z M).bind λfl M=>match fl with
 |.next Z=>g' Z M
 |fl=>.ok fl M):=
 vg (kn h1 h2) λL P H ⟨I,Z,M,B,E,h⟩=>by
  obtain⟨fl,z,e,q⟩:=ax h;refine{I,Z,M,B,E,?_};rw[e];cases fl with
  |next j=>exact λJ O y F u v=>{y,j,z,u,v,zf F q}
  |ret d=>exact q
  |exc x j=>exact q
end
def dQ (fa:Fa)(K:OU)(μ0:Mu)(H0:Hp)(w:Walk)(J:It):Prop:=
 ∀(h:Mu) (H:Hp) (M:Mem) (u:List D),ExtW μ0 H0 h H->RelM fa K h H M->w M=some u->(∀(i:Nat) (d:D),u[i]?=some d->J.go i H/\∀x j,J.yld i H x j->Ext h H h j/\RelM fa K h j M/\Rep fa K h j d x)/\∀i,u.length<=i->J.stop i H
def tI (fa:Fa)(K:OU)(g:Env->Mem->Res Walk):TI:=λz H R=>∃u v M,bb fa K u H z v/\RelM fa K u H M/\ae (g v M) λw y=>∀J j h,Ext u H h j->RelM fa K h j y->dQ fa K h j w J->R J j
abbrev DI (fa:Fa)(X:Cx)(tg h:Expr)(g:Env->Mem->Res Walk):Prop:=PI X tg h (tI fa X.K g)
def qu {K:OU}(h:dQ fa K μ0 H0 w J)(x:ExtW μ0 H0 μ1 H1):dQ fa K μ1 H1 w J:=λv H M j y u e=>h v H M j (x.trans y) u e
section
variable{fa:Fa}{X:Cx}{tg a b d:Expr}{ga gb gd:Env->Mem->Res D}{pos p:Pos}{es:List Expr}{n:Nat}
def xX {ad:Addr}(h:Rep fa X.K μ0 H0 dd (.ref ad)):dQ fa X.K μ0 H0 (λM=>d3 M dd) (Ky X.K ad):=λP H M O x u e=>by
 obtain⟨B,j,E,s,r⟩:=bA u (Rep.extW x h) e;cases E;refine{λi d hd=>?_,λi F=>{j,s,by rw[r.length];exact F}}
 obtain⟨v,z,J⟩:=r.get hd;refine{⟨j,v,s,z⟩,λy L ⟨e,I⟩=>?_};subst e;have:=I j s;rw[z] at this;cases this;exact{.refl,u,J}
def Ax {ad:Addr}(h:Rep fa X.K μ0 H0 (.tup ds) (.ref ad)):dQ fa X.K μ0 H0 (λ_=>some ds) (Kx X.K ad):=λP H M B x F E=>by
 cases E;obtain⟨z,j,e,s,r⟩:=Rep.extW x h;cases e;refine{λi d hd=>?_,λi I=>{j,s,by rw[r.length];exact I}}
 obtain⟨v,u,L⟩:=r.get hd;refine{⟨j,v,s,u⟩,λy O ⟨e,J⟩=>?_};subst e;have:=J j s;rw[u] at this;cases this;exact{.refl,F,L}
def Ay (lo:Int)(n:Nat):dQ fa X.K μ0 H0 (λ_=>some ((List.range n).map λ(k:Nat)=>D.int (lo+(k:Int)))) (D8 lo n):=λz H M v x j e=>by
 cases e;refine{λi d hd=>?_,λi h=>(show n<=i by simpa using h)}
 rw[Pt] at hd;by_cases h:i<n
 ·rw[List.getElem?_range h] at hd;have e:=O2 hd;subst e;refine{h,λy u ⟨e1,e2⟩=>?_};subst e1 e2;exact{.refl,j,rfl}
 ·rw[List.getElem?_eq_none (by simpa using h)] at hd;cases hd
def dA (ga:Env->Mem->Res D):Env->Mem->Res Walk:=λj M=>(ga j M).bind λx M=>match x with
 |.lst h=>.ok (λ_=>some h) M
 |.tup h=>.ok (λ_=>some h) M
 |.frz h=>.ok (λ_=>some h) M
 |.cell k=>.ok (λM=>M[k]?) M
 |_=>.bad
def J0 (Y:DE fa X a ga):DI fa X tg a (dA ga):=λu s S H R I ⟨Q,Z,M,U,W,h⟩=>by
 obtain⟨x,L,e,q⟩:=ax h;have lst:(∀j B,RelM fa X.K j B L->∀v,Rep fa X.K j B x v->∃y,d3 L x=some y)->(∀J B j,Ext Q H j B->RelM fa X.K j B L->dQ fa X.K j B (λM=>d3 M x) J->R J B)->
  wpAny (model X.prog X.w) X.A (eval a X.env) (λv s1=>wpAny (model X.prog X.w) X.A (pyIter v) (Kv X u S tg R) X.xe s1) X.xe s:=λhx q=>by
  refine Fs Y u s S H R I {Q,Z,M,U,W,?_};rw[e];intro v F z P E r1;obtain⟨y,er⟩:=hx z F E v r1;obtain⟨ad,O,rfl,s1,r⟩:=bA E r1 er;exact{ad,rfl,⟨O,s1⟩,q _ F z P E (xX r1)}
 cases x with
 |lst y=>exact lst (λ_ _ _ _ _=>⟨y,rfl⟩) q
 |frz y=>exact lst (λ_ _ _ _ _=>⟨y,rfl⟩) q
 | tup y =>
   refine Ih Y u s S H R I {Q,Z,M,U,W,?_};rw[e];intro v F z P E r1;obtain⟨ad,O,rfl,s1,r⟩:=id r1;exact{ad,rfl,⟨O,s1⟩,q _ F z P E (Ax r1)}
 |cell k=>exact lst (λj B m' v ⟨ad,_,hk⟩=>let{y,_,e,_}:=m'.mu_lt hk;⟨y,e⟩) q
 |_=>exact q.elim
def eI (ga:Env->Mem->Res D):Env->Mem->Res Walk:=λh M=>(ga h M).bind λx M=>match x with
 |.int n=>if -(2^62)<=n/\n<2^62 then .ok (λ_=>some ((List.range n.toNat).map λ(k:Nat)=>D.int (k:Int))) M else .bad
 |_=>.bad
set_option tactic.hygienic true in
def Gh (J:DE fa X a ga)(L:Gl X "range")(hm:X.mg "range"=none)(hs:starEach [a] X.env=[(false,eval a X.env)]):DI fa X tg (.Call (.Name "range" p) [a] [] pos) (eI ga):=λj s P H R I ⟨S,U,M,B,F,h⟩=>by
 refine yZ L hm (cU J eB hs) hs j s P H R I ?_;refine t1 B F h λx Q v z u O E y r1 h1=>?_;cases x with
 | int n =>
   dsimp only at h1;split at h1
   ·next c=>
    obtain rfl:v=.int n:=r1;refine{n,rfl,c.1,c.2,h1 _ z u O y ?_};have:=Ay (fa:=fa) (X:=X) (μ0:=u) (H0:=z) 0 n.toNat;simpa using this
   ·exact h1.elim
 |_=>exact h1.elim
def fw (t:fg)(gb:Env->Mem->Res Fl):Fl->D->Mem->Res Fl:=λfl d M=>match fl with
 |.next j=>(bL M (bV t d j)).bind λh M=>gb h M
 |fl=>.ok fl M
noncomputable def Fl.out:Fl->Bool
 |.next _=>false
 |_=>true
set_option tactic.hygienic true in
def kz {gb:Env->Mem->Res Fl}(ho:fl.out=true):∀(n i:Nat) (M:Mem),ae (fx (fw t gb) w n i fl M) P->P fl M
 |0,_,_,h=>h.elim
 | n + 1, i, M, h => by
   unfold fx at h;cases e:w M with
   |none=>rw[e] at h;exact h.elim
   | some j =>
     rw[e] at h;dsimp only at h;cases e2:j[i]? with
     |none=>rw[e2] at h;exact h
     | some v =>
       rw[e2] at h;cases fl with
       |next u=>cases ho
       |ret d=>exact kz ho n (i+1) M h
       |exc x u=>exact kz ho n (i+1) M h
def tL (fa:Fa)(X:Cx)(g:Env->Mem->Res Fl):TS:=λD h H=>(∀h H,D.nx h H->D.ct h H)/\tF fa X g D h H
abbrev uO (fa:Fa)(X:Cx)(st:List Stmt)(g:Env->Mem->Res Fl):Prop:=j5 X st (tL fa X g)
def DM {body:List Stmt}{gb:Env->Mem->Res Fl}(h:j7 fa X body gb):uO fa X body gb:=λj s u H D I q=>h j s u H D I q.2
set_option tactic.hygienic true in
def zS {gw:Env->Mem->Res Walk}{gb:Env->Mem->Res Fl}(hp:PassesOwn (model X.prog X.w) X.A X.env X.xe)(hc:X.calm=true)(hi:DI fa X tg a gw)(hg:PG X tg (gT fa X.K t))(hb:uO fa X body gb)
 (hs:∀x,foldedSetIterable a X.env x=pure x):DS fa X (.For tg a body [] pos) (λZ M=>(gw Z M).bind λw M=>c6 (fw t gb) w (.next Z) M):=
 cM (Ic hp hc hi hg hb hs) λD' σ H ⟨μ,Z,M,hE,hM,h⟩=>by
  obtain⟨w,M1,e,q⟩:=ax h;refine{μ,Z,M,hE,hM,?_};rw[e];intro J H1 I x1 hM1 wk;have hE1:=hE.ext x1;refine{λi m E F=>∃j u L,Ext I H1 j F/\bb fa X.K j F E u/\RelM fa X.K j F L/\ae (fx (fw t gb) w m i (.next u) L) (j6 fa X μ H D'),
   {_,I,Z,M1,.refl,hE1,hM1,q},?_}
  rintro i m σ2 H2 ⟨B,S,M2,R,O,P,v⟩;cases m with
  |zero=>exact v.elim
  | succ m =>
    unfold fx at v;cases e2:w M2 with
    |none=>rw[e2] at v;exact v.elim
    | some ds =>
      rw[e2] at v;dsimp only at v;obtain⟨go,stop⟩:=wk B H2 M2 ds R.toExtW P e2;cases ed:ds[i]? with
      | none =>
        rw[ed] at v;exact .inl {stop i (List.getElem?_eq_none_iff.mp ed),v σ2 H2 B (x1.trans R) O P}
      | some d =>
        rw[ed] at v;obtain⟨g1,g2⟩:=go i d ed;refine .inr {g1,λE F=>∃j u L,Ext I H1 j F/\bb fa X.K j F E u/\RelM fa X.K j F L/\ae (fx (fw t gb) w m (i+1) (.next u) L) (j6 fa X μ H D'),λE F z=>{m,`a,z},λy H3 hy=>?_}
        obtain⟨x3,Q,r3⟩:=g2 y H3 hy;obtain⟨fl,M4,e4,q4⟩:=ax v;obtain⟨U,M5,Y,e6⟩:=ez e4;cases eb:bV t d S with
        |none=>rw[eb] at Y;cases Y
        | some ρ5 =>
          rw[eb] at Y;cases Y;refine{B,S,_,d,U,O.ext x3,Q,r3,eb,λσ5 hE5=>{λ_ _ z=>z,B,U,_,hE5,Q,?_}};rw[e6];cases fl with
          |next W=>exact λσ6 H6 μ6 x6 hE6 hM6=>{μ6,W,M4,(R.trans x3).trans x6,hE6,hM6,q4}
          |ret d6=>exact(kz rfl m (i+1) M4 q4).ext ((x1.trans R).trans x3)
          |exc x6 W=>exact(kz rfl m (i+1) M4 q4).ext ((x1.trans R).trans x3)
end
abbrev FF:OX->O0->Prop:=λ_ _=>False
section
variable{prog:PH}{w:PC}{A:Qx}{s:O0}
def zX
 (J:compTurn ce k it acc env=(standAt p >>= λ_=>pyNext it >>= λr=>match r with
  |none=>pure (.done .next)
  |some v=>letOwnedTupleGo target it v >>= λ_=>assign target env v >>= λ_=>body >>= λ_=>again (.compLoop ce k it acc env)))
 (hd:(model prog w).den (.compLoop ce k it acc env)=(compTurn ce k it acc env).onRaise (λx=>do noteFrame x env;theTreesLotGoes x)/\A.under (.compLoop ce k it acc env)=A) (I:Nat->O0->Prop)
 (turn:∀n s,I n s->wpAny (model prog w) A (pyNext it) (λr j=>match r with
  |none=>R (.ok .next) j
  |some v=>wpAny (model prog w) A (letOwnedTupleGo target it v) (λ_ y=>wpAny (model prog w) A (assign target env v) (λ_ z=>wpAny (model prog w) A body (λ_ B=>∃m,m<n/\I m B) FF z) FF y) FF j) FF s)
 (n:Nat) (h:I n s):codeAny (model prog w) A (.compLoop ce k it acc env) R s:=by
 refine codeAny_loop rfl I (λn s L=>?_) n h;rw[hd.1,hd.2];refine wpAny_noted ?_;rw[J];refine wpAny_noRaise ?_;refine tqa (wpAny_standAt (tqa (aI (turn n s L) λr j u=>?_)));cases r with
 |none=>exact tqb u
 | some v =>
   refine tqa (aI u λ_ y E=>?_);exact tqa (aI E λ_ z F=>tqa (aI F λ_ B H=>tqb ⟨rfl,H⟩))
def AS (y h j:Expr)(B:List Q2)(u:Scope)(pos:Pos)(z acc:OX)(env:Qu) :
 compTurn (.ListComp y [{h,j,[],0}] u pos) 0 z acc env=(standAt j.pos >>= λ_=>pyNext z >>= λr=>match r with
  |none=>pure (.done .next)
  |some v=>letOwnedTupleGo h z v >>= λ_=>assign h env v >>= λ_=>(eval y env >>= λx=>call (.builtin "list.append") [acc,x] >>= λ_=>pure ()) >>= λ_=>again (.compLoop (.ListComp y [{h,j,[],0}] u pos) 0 z acc env)):=`r
def turn_if (y h j c:Expr)(u:Scope)(pos:Pos)(z acc:OX)(env:Qu) :
 compTurn (.ListComp y [{h,j,[c],0}] u pos) 0 z acc env=(standAt j.pos >>= λ_=>pyNext z >>= λr=>match r with
  |none=>pure (.done .next)
  |some v=>letOwnedTupleGo h z v >>= λ_=>assign h env v >>= λ_=>(isTrue c env (eval c env) >>= λok=>if ok=true then(eval y env >>= λx=>call (.builtin "list.append") [acc,x] >>= λ_=>pure ()) else pure ()) >>= λ_=>again (.compLoop (.ListComp y [{h,j,[c],0}] u pos) 0 z acc env)):=by
 rw[compTurn_list];refine congrArg _ (funext λ_=>congrArg _ (funext λr=>?_));cases r with
 |none=>rfl
 | some v =>
   simp only[List.forIn_cons,List.forIn_nil,if_true,bind_assoc,pure_bind];refine congrArg _ (funext λ_=>congrArg _ (funext λ_=>congrArg _ (funext λok=>?_)));cases ok<;>simp
def AQ (z h y t2 B:Expr)(u:Scope)(pos:Pos)(E acc:OX)(env:Qu) :
 compTurn (.ListComp z [{h,y,[],0},{t2,B,[],0}] u pos) 0 E acc env=(standAt y.pos >>= λ_=>pyNext E >>= λr=>match r with
  |none=>pure (.done .next)
  |some v=>letOwnedTupleGo h E v >>= λ_=>assign h env v >>= λ_=>(eval B env >>= λx=>standAt B.pos >>= λ_=>foldedSetIterable B env x >>= λx=>holding [x] (pyIter x) >>= λj=>runOwn (.compStart (.ListComp z [{h,y,[],0},{t2,B,[],0}] u pos) 1 j acc env) env >>= λ_=>pure ()) >>= λ_=>again (.compLoop (.ListComp z [{h,y,[],0},{t2,B,[],0}] u pos) 0 E acc env)):=by
 refine bind_congr λ_=>bind_congr λr=>?_;cases r with
 |none=>rfl
 |some v=>simp
def AR (y h u t2 B:Expr)(j:Scope)(pos:Pos)(z acc:OX)(env:Qu) :
 compTurn (.ListComp y [{h,u,[],0},{t2,B,[],0}] j pos) 1 z acc env=(standAt B.pos >>= λ_=>pyNext z >>= λr=>match r with
  |none=>pure (.done .next)
  |some v=>letOwnedTupleGo t2 z v >>= λ_=>assign t2 env v >>= λ_=>(eval y env >>= λx=>call (.builtin "list.append") [acc,x] >>= λ_=>pure ()) >>= λ_=>again (.compLoop (.ListComp y [{h,u,[],0},{t2,B,[],0}] j pos) 1 z acc env)):=by
 rfl
set_option tactic.hygienic true in
def kI (env:Qu):∀(ns:List (Str×NameKind)) (h:List (Str×Addr)),(∀y∈ns,y.2=.free->∃c,env.cells.lookup y.1=some c)->(∀x c,h.lookup x=some c->env.cells.lookup x=some c)->
 ∃cl,(forIn ns h λ(y:Str×NameKind) (r:List (Str×Addr))=>if (y.2==NameKind.free)=true then cellOf env y.1 >>= λa=>pure (ForInStep.yield ((y.1,a)::r)) else pure (ForInStep.yield r):Sem _)=pure cl/\
  (∀x c,cl.lookup x=some c->env.cells.lookup x=some c)/\(∀x c,h.lookup x=some c->∃E,cl.lookup x=some E)/\∀y∈ns,y.2=.free->∃c,cl.lookup y.1=some c
 |[],h,_,h2=>{h,`s,h2,λx c e=>⟨c,e⟩,λy j=>nomatch j}
 | (n, k) :: ns, h, h1, h2 => by
   by_cases hk:k=.free
   ·subst hk;obtain⟨a,v⟩:=h1 (n,.free) Pm rfl;have lk:∀x c,((n,a)::h).lookup x=some c->env.cells.lookup x=some c:=λx c e=>by
     rw[PK] at e;split at e
     ·next q=>cases e;rw[eq_of_beq q];exact v
     ·exact h2 x c e
    obtain⟨cl,e,p1,p2,u⟩:=kI env ns ((n,a)::h) (λy j=>h1 y (O6 _ j)) lk;refine{cl,?_,p1,λx c q=>?_,λy j hf=>?_}
    ·rw[List.forIn_cons];have H:cellOf env n=pure a:=by unfold cellOf;rw[v]
     simp only[beq_self_eq_true,if_true,H];exact e
    ·by_cases B:x=n
     ·exact p2 x a (by rw[PK,B];simp)
     ·exact p2 x c (by rw[PK,Qf.mpr B];exact q)
    ·rcases PJ.mp j with z|z
     ·subst z;exact p2 n a (by simp[PK])
     ·exact u y z hf
   ·obtain⟨cl,e,p1,p2,u⟩:=kI env ns h (λy j=>h1 y (O6 _ j)) h2;refine{cl,?_,p1,p2,λy j hf=>?_}
    ·rw[List.forIn_cons];have F:(k==NameKind.free)=false:=by simpa using hk
     simp only[F,Bool.false_eq_true,if_false];exact e
    ·rcases PJ.mp j with z|z
     ·subst z;exact absurd hf hk
     ·exact u y z hf
def oU (h:∀y∈j.names,y.2=.free->∃c,env.cells.lookup y.1=some c) :
 ∃cl,closureFor j env=pure cl/\(∀x c,cl.lookup x=some c->env.cells.lookup x=some c)/\∀y∈j.names,y.2=.free->∃c,cl.lookup y.1=some c:=by
 obtain⟨cl,e,p1,_,u⟩:=kI env j.names [] h (λx c q=>nomatch q);exact{cl,by unfold closureFor;simp only[bind_pure];exact e,p1,u}
end
noncomputable def fq (X:Cx)(own bn:List Str)(scope:Scope)(cl:List (Str×Addr))(C:Addr)(fp:List Addr)(s:O0)(H:Hp):Cx:=
 {X with N:=own++bn,s₀:=s,H₀:=H,env:=compEnvC scope cl C X.env,outer:=X.stack,ex:=fp,fn:=λx=>scope.names.lookup x==some .cell,pn:=[],xe:=FF}
set_option tactic.hygienic true in
def mem_of_lookup {j:Type}:∀{l:List (Str×j)}{x:Str}{k:j},l.lookup x=some k->(x,k)∈l
 |[],_,_,h=>by cases h
 | (n, b) :: r, x, k, h => by
   rw[PK] at h;split at h
   ·next q=>cases h;rw[eq_of_beq q];exact Pm
   ·exact O6 _ (mem_of_lookup h)
set_option tactic.hygienic true in
def fT {env:Qu}:∀{j:List (Str×NameKind)}{x:Str}{k:NameKind},
 (j.map λ(n,k)=>if (k==NameKind.free&&env.scope.kind==.function&&env.kindOf n==some .cell) then(n,NameKind.cell) else(n,k)).lookup x=some k->
 ∃k0,(x,k0)∈j/\j.lookup x=some k0/\(k=k0\/(k0=.free/\k=.cell))
 |[],_,_,h=>by cases h
 | (n, k0) :: r, x, k, h => by
   have y:=@fT env r x k;have h:List.lookup x ((if (k0==NameKind.free&&env.scope.kind==.function&&env.kindOf n==some .cell)=true then(n,NameKind.cell) else(n,k0))::_)=some k:=h;cases u:x==n with
   | true =>
     have e:=eq_of_beq u;subst e;refine{k0,Pm,by simp[PK],?_}
     split at h
     ·next c=>
      simp[PK] at h;simp at c;exact .inr ⟨c.1.1,h.symm⟩
     ·simp[PK] at h;exact .inl h.symm
   | false =>
     have v:List.lookup x (r.map λ(n,k)=>if (k==NameKind.free&&env.scope.kind==.function&&env.kindOf n==some .cell) then(n,NameKind.cell) else(n,k))=some k:=by
      split at h<;>simpa[PK,u] using h
     obtain⟨k1,h1,h2,h3⟩:=y v;exact{k1,O6 _ h1,by simp[PK,u];exact h2,h3}
def oB {h j:Type}{R:h->j->Prop}:∀{l:List h}{r:List j}{i:Nat}{x:h},QT R l r->l[i]?=some x->∃y,r[i]?=some y/\R x y
 |_,_,_,_,.nil,e=>by simp at e
 |_,_,0,_,.cons p _,e=>by simp at e;subst e;exact{_,rfl,p}
 | _, _, i + 1, x, .cons _ t, e => by
   obtain⟨y,h1,h2⟩:=oB t (by simpa using e)
   exact{y,by simpa using h1,h2}
structure eU (X:Cx) (own bn:List Str) (scope:Scope):Prop where
 kind:scope.kind=.function
 cel:∀y∈scope.names,y.2=.cell->scope.names.lookup y.1=some .cell
 loc:∀y∈scope.names,y.2=.local->scope.names.lookup y.1=some .local
 free:∀y∈scope.names,y.2=.free->X.env.kindOf y.1=some .cell\/X.env.kindOf y.1=some .free
 dis:QT (λb x=>(b=x/\scope.names.lookup x≠some .local/\scope.names.lookup x≠some .cell)\/scope.names.lookup b=none) bn X.N
def i4:∀(h:List (Str×NameKind)) (n:Nat) (acc:List (Str×Addr)),cellsFrom n h acc=cellsFrom n h []++acc
 |[],_,_=>rfl
 | (nm, k) :: r, n, acc => by
   unfold cellsFrom;split
   ·rw[i4 r (n+1) ((nm,n)::acc),i4 r (n+1) [(nm,n)],Qp];rfl
   ·exact i4 r n acc
set_option tactic.hygienic true in
def uj:∀{j:List (Str×NameKind)}{n:Nat}{x:Str}{c:Addr},(x,c)∈cellsFrom n j []->(x,NameKind.cell)∈j
 |[],_,_,_,h=>nomatch h
 | (nm, k) :: r, n, x, c, h => by
   unfold cellsFrom at h;split at h
   ·next e=>
    rw[i4] at h;rcases PL.mp h with h|h
    ·exact O6 _ (uj h)
    ·cases Pr.mp h;rw[eq_of_beq e];exact Pm
   ·exact O6 _ (uj h)
def oV:∀{j:List (Str×NameKind)}{n:Nat}{x:Str},(x,NameKind.cell)∈j->∃c,(x,c)∈cellsFrom n j []
 | (nm, k) :: r, n, x, h => by
   unfold cellsFrom;rcases PJ.mp h with h|h
   ·cases h;rw[if_pos (by rfl:(NameKind.cell==NameKind.cell)=true),i4]
    exact{n,PF _ (Pr.mpr rfl)}
   ·split
    ·obtain⟨c,u⟩:=oV h;rw[i4];exact{c,Qh _ u}
    ·exact oV h
def lL {j:Type}:∀{l:List (Str×j)}{x:Str}{b:j},(x,b)∈l->∃c,l.lookup x=some c
 | (n, u) :: r, x, b, h => by
   rw[PK];cases e:x==n with
   |true=>exact{_,rfl}
   | false =>
     rcases PJ.mp h with z|z
     ·cases z;rw[beq_self_eq_true] at e;cases e
     ·exact lL z
def qS
 (h:Q (newEnv scope s.heap.objs.size globals (cellsFrom (s.heap.objs.size+1) scope.names cl) qual none .none (some env) builtinsNs) {s with heap:=pushCells (s.heap.push {cls:=.type "dict",data:=.dict #[]}) scope.names}) :
 wpAny M A (newFunctionEnv scope globals cl [] qual none .none (some env)) Q E s:=by
 simp only[newFunctionEnv,Option.isSome_some,if_true];refine tqa (wpAny_alloc ?_);refine tqa (wpAny_layCells _ (λv kind j=>by cases u:kind==NameKind.cell<;>simp[u]) _ _ _ _ ?_)
 rw[show({s with heap:=s.heap.push {cls:=.type "dict",data:=.dict #[]}}:O0).heap.objs.size=s.heap.objs.size+1 from Qt ..]
 exact tqa (tqb (tqb h))
section
variable{X:Cx}{pins:List (Addr×Obj)}{σ:L2.St}{H:Hp}{s:O0}{fp:List Addr}{scope:Scope}{cl:List (Str×Addr)}{own bn:List Str}
structure Cl (X:Cx) (scope:Scope) (cl:List (Str×Addr)) (n:Nat):Prop where
 sub:∀x c,cl.lookup x=some c->(scope.names.lookup x=some .cell/\n<c)\/(scope.names.lookup x≠some .cell/\X.env.cells.lookup x=some c)
 inj:∀x y c,cl.lookup x=some c->cl.lookup y=some c->scope.names.lookup x=some .cell->scope.names.lookup y=some .cell->x=y
 has:∀y∈scope.names,(y.2=.free\/y.2=.cell)->∃c,cl.lookup y.1=some c
def DQ (S:eU X own bn scope)(h1:∀x c,cl.lookup x=some c->X.env.cells.lookup x=some c)(h2:∀y∈scope.names,y.2=.free->∃c,cl.lookup y.1=some c)(h:Heap)(hn:h.objs.size=n+1) :
 Cl X scope (cellsFrom (n+1) scope.names cl) n/\∀x c,(cellsFrom (n+1) scope.names cl).lookup x=some c->scope.names.lookup x=some .cell->(pushCells h scope.names).IsCell c none:=by
 have ok:=cellsFrom_ok scope.names h (n+1) [] {λ_ _ hm=>(nomatch hm),List.Pairwise.nil} (by rw[hn];exact OZ _)
 rw[hn] at ok;rw[i4];have j:∀{x c},(cellsFrom (n+1) scope.names []++cl).lookup x=some c->scope.names.lookup x=some .cell->(x,c)∈cellsFrom (n+1) scope.names []:=λ{x c} e u=>by
  obtain⟨E,I⟩:=oV (mem_of_lookup u);obtain⟨J,h2⟩:=lL I;rw[List.lookup_append,h2] at e;cases e;exact mem_of_lookup h2
 have v:∀{x c},(cellsFrom (n+1) scope.names []++cl).lookup x=some c->scope.names.lookup x≠some .cell->cl.lookup x=some c:=λ{x c} e u=>by
  rw[List.lookup_append] at e;cases z:(cellsFrom (n+1) scope.names []).lookup x with
  |none=>rw[z] at e;exact e
  |some E=>exact absurd (S.cel _ (uj (mem_of_lookup z)) rfl) u
 refine{{λx c e=>?_,λx y c e1 e2 u B=>?_,λy B hk=>?_},λx c e u=>(ok.empty x c (j e u)).1}
 ·by_cases u:scope.names.lookup x=some .cell
  ·exact .inl {u,(ok.empty x c (j e u)).2}
  ·exact .inr {u,h1 x c (v e u)}
 ·exact name_of_addr ok.apart (j e1 u) (j e2 B)
 ·rcases hk with hk|hk
  ·obtain⟨c,F⟩:=h2 y B hk;rw[List.lookup_append];cases (cellsFrom (n+1) scope.names []).lookup y.1 with
   |none=>exact⟨c,F⟩
   |some E=>exact⟨E,rfl⟩
  ·obtain⟨c,F⟩:=oV (by rw[<- hk];exact B)
   obtain⟨J,e2⟩:=lL F;rw[List.lookup_append,e2];exact⟨J,rfl⟩
def Gs (I:Inv X pins σ H s)(S:eU X own bn scope)(j:Cl X scope cl s.heap.objs.size)(v:∀b∈fp,eR X pins H b)(B:∀b∈fp,∃o,s.heap.get? b=some o) :
 (fq X own bn scope cl s.heap.objs.size fp s H).Ok where
 mod:=I.ok.mod
 kind:=S.kind
 glob:=I.ok.glob
 blt:=I.ok.blt
 above:=OZ _
 inj:=λx y c h1 h2=>by
  have lt:=λz e=>Nat.not_lt.mpr (Q4 (let{_,q}:=I.cell z c e;q.lt))
  rcases j.sub x c h1 with⟨a1,a2⟩|⟨a1,a2⟩<;>rcases j.sub y c h2 with⟨J,F⟩|⟨J,F⟩
  ·exact j.inj x y c h1 h2 a1 J
  ·exact absurd a2 (lt y F)
  ·exact absurd F (lt x a2)
  ·exact I.ok.inj x y c a2 F
 has:=λx h=>by
  have E:∀k,(relabel scope X.env).names.lookup x=some k->(k=.cell\/k=.free)->∃c,cl.lookup x=some c:=λk hk L=>by
   obtain⟨O,h1,h2,h3⟩:=fT hk;refine j.has _ h1 ?_;rcases h3 with e|⟨e,_⟩
   ·rcases L with z|z
    ·exact .inr (e.symm.trans z)
    ·exact .inl (e.symm.trans z)
   ·exact .inl e
  rcases h with h|h
  ·exact E _ h (.inl rfl)
  ·exact E _ h (.inr rfl)
 cab:=λx c h e=>by
  rcases j.sub x c e with⟨_,a2⟩|⟨a1,_⟩
  ·exact Q4 a2
  ·exact absurd (eq_of_beq h) a1
 hd:=I.ok.hd
 frames:=I.ok.frames
 stk:=.inl rfl
 exf:=λb u=>{λe=>by
  obtain⟨o,ho⟩:=B b u;exact absurd (Pe ho) (by rw[e];exact Qj _),λx c e=>by
  rcases j.sub x c e with⟨_,a2⟩|⟨_,a2⟩
  ·obtain⟨o,ho⟩:=B b u;exact λz=>absurd (Pe ho) (by rw[<- z];exact Nat.lt_asymm a2)
  ·exact(v b u).2.2.2.2.1 x c a2}
 bs:=λb o e=>I.bs b o e
 bsz:=Pa I.ok.bsz I.sz
 noex:=λb o e u=>by
  rcases(v b u).2.2.2.1 with z|z
  ·exact I.ok.noex b o e z
  ·exact absurd (Pj (Pe e) (Pa I.ok.bsz z)) (Qj _)
 exfs:=λb u M=>by
  rcases PJ.mp (I.stkSub b M) with e|e
  ·exact(v b u).2.1 e
  ·exact(v b u).2.2.1 e
 funs:=I.stack
 frf:=λb u=>I.stkFree b u
def ui (I:Inv X pins σ H s)(S:eU X own bn scope)(h:Cl X scope cl s.heap.objs.size)(P:∀b∈fp,eR X pins H b)(O:∀b∈fp,∃o,s.heap.get? b=some o)
 (hn:h'.Ns s.heap.objs.size m) (hk:∀b o,s.heap.get? b=some o->h'.get? b=some o) (M:∀x c,cl.lookup x=some c->scope.names.lookup x=some .cell->h'.IsCell c none) :
 Inv (fq X own bn scope cl s.heap.objs.size fp s H) [] (List.replicate own.length none++σ) H {s with heap:=h',toks:=t'} where
 ok:=Gs I S h P O
 os:=rfl
 bare:=I.bare
 base:=Un.kept hk
 loc:=by
  refine{m,hn,λi x v e1 e2 W=>?_};have e1:(own++bn)[i]?=some x:=e1;have U:own.length<=i:=by
   by_cases q:i<own.length
   ·rw[O4 (by simpa using q),Q0] at e2
    simp[q] at e2
   ·omega
  rw[Pp U] at e1;rw[Pp (by simpa using U)] at e2
  simp only[List.length_replicate] at e2;have L:X.N[i-own.length]?=some x/\scope.names.lookup x≠some .local/\scope.names.lookup x≠some .cell:=by
   rcases oB S.dis e1 with⟨y,h1,⟨h2,h3⟩|h2⟩
   ·subst h2;exact⟨h1,h3⟩
   ·exfalso;have no:∀k,(relabel scope X.env).names.lookup x≠some k:=λk hk=>by
     obtain⟨Q,_,h3,_⟩:=fT hk;rw[h2] at h3;cases h3
    rcases W with z|z|z
    ·exact no _ z
    ·exact no _ z
    ·exact no _ z
  have R:∀k,(relabel scope X.env).names.lookup x=some k->(k=.local\/k=.cell\/k=.free)->∃c,(k=.cell\/k=.free)/\cl.lookup x=some c/\(X.env.kindOf x=some .cell\/X.env.kindOf x=some .free):=λk j J=>by
   obtain⟨Q,h1,h2,h3⟩:=fT j;have nl:Q≠.local:=λe=>L.2.1 (by rw[h2,e])
   have hf:Q=.free:=by
    rcases h3 with e|⟨e,_⟩
    ·rcases J with z|z|z
     ·exact absurd (e.symm.trans z) nl
     ·exact absurd (by rw[h2,e.symm.trans z]) L.2.2
     ·exact e.symm.trans z
    ·exact e
   obtain⟨c,Y⟩:=h.has _ h1 (.inl hf);refine{c,?_,Y,S.free _ h1 hf};rcases J with z|z|z
   ·rcases h3 with e|⟨_,e⟩
    ·rw[hf] at e;rw[e] at z;cases z
    ·rw[e] at z;cases z
   ·exact .inl z
   ·exact .inr z
  have B:∀k,(relabel scope X.env).names.lookup x=some k->(k=.local\/k=.cell\/k=.free)->∃u,RelV v u/\Look (compEnvC scope cl s.heap.objs.size X.env) h' m x u:=λk j J=>by
   obtain⟨c,h1,h2,h3⟩:=R k j J;obtain⟨m0,_,hl⟩:=I.loc;obtain⟨u,r,l⟩:=hl _ x v L.1 e2 (.inr h3);refine{u,r,.inr {?_,c,h2,?_}}
   ·rcases h1 with z|z
    ·subst z;exact .inl j
    ·subst z;exact .inr j
   ·rcases l with⟨z,_⟩|⟨_,c',F,E⟩
    ·rcases h3 with q|q
     ·rw[z] at q;cases q
     ·rw[z] at q;cases q
    ·rcases h.sub x c h2 with⟨a1,_⟩|⟨_,a2⟩
     ·exact absurd a1 L.2.2
     rw[a2] at F;cases F;obtain⟨o,ho,hd⟩:=E;exact{o,hk _ _ ho,hd}
  rcases W with z|z|z
  ·exact B _ z (.inl rfl)
  ·exact B _ z (.inr (.inl rfl))
  ·exact B _ z (.inr (.inr rfl))
 cell:=λx c e=>by
  rcases h.sub x c e with⟨a1,_⟩|⟨_,a2⟩
  ·exact{none,M x c e a1}
  obtain⟨v,o,ho,hd⟩:=I.cell x c a2;exact{v,o,hk _ _ ho,hd}
 free:=I.hok.fresh (OZ _)
 freeC:=λx c e=>(h.sub x c e).elim (λz=>I.hok.fresh (Q4 z.2)) λz=>I.freeC x c z.2
 pin:=λp hp=>nomatch hp
 hok:=I.hok.kept hk
 len:=by
  show(List.replicate own.length none++σ).length=(own++bn).length;have:=Paired.length S.dis;simp[I.len,this]
def comp_back (I:Inv X pins σ H s)(h:∀b∈fp,eR X pins H b)(j:Inv (fq X own bn scope cl C fp s H) pins' σ' H' s'):Inv X pins σ H' s':=
 I.call' j.os j.base j.hok j.bare λb u=>{(h b u).2.2.2.1,(h b u).2.1,(h b u).2.2.2.2.1,(h b u).2.2.2.2.2}
def qV (I:Inv X pins σ H s)(hf:H' s.heap.objs.size=none)(h:Inv X pins σ' H' s')(hs:QE s.heap.objs.size s'.heap h''):Inv X pins σ' H' {s' with heap:=h''}:=
 h.turned (λb o j e=>(hs.2 b j).trans e) hf (PX I.lt) (.inr I.sz) (λx c e z=>by
  obtain⟨v,q⟩:=I.cell x c e;exact absurd q.lt (by rw[z];exact Qj _)) λp u z=>absurd (Pe (I.pin p u).1) (by rw[z];exact Qj _)
end
structure eT (a:Addr) (μ:Mu) (H:Hp) (μ':Mu) (H':Hp):Prop extends ExtW μ H μ' H' where
 pr:μ'.priv=μ.priv
 pk:∀b∈μ.priv,b≠a->H' b=H b
def eT.refl:eT a μ H μ H:={.refl,rfl,λ_ _ _=>rfl}
def eT.trans (x:eT a μ H μ1 H1)(y:eT a μ1 H1 μ2 H2):eT a μ H μ2 H2:=
 {x.toExtW.trans y.toExtW,y.pr.trans x.pr,λb h n=>(y.pk b (by rw[x.pr];exact h) n).trans (x.pk b h n)}
def Ext.toD (x:Ext μ H μ' H'):eT a μ H μ' H':={x.toExtW,x.pr,λb h _=>x.pk b h}
noncomputable def slots:fg->List Nat
 |.one i=>[i]
 |.tup l=>l
 |.two i l=>i::l
def Clear (W:List Nat)(Z:Env):Prop:=∀i∈W,∀d,Z[i]?≠some (some d)
section
variable{fa:Fa}{K:OU}{μ μ':Mu}{H H':Hp}{σ:L2.St}{Z ρ1:Env}{M:Mem}{a:Addr}
def bb.weak (h:bb fa K μ H σ ρ1)(hl:ρ1.length=Z.length)(w:∀(i:Nat) d,Z[i]?=some (some d)->ρ1[i]?=some (some d)):bb fa K μ H σ Z:=
 {h.len.trans hl,λi d e=>h.at' i d (w i d e)}
def ke:∀{l:List Nat}{ds:List D}{Z ρ1:Env},cg l ds Z=some ρ1->ρ1.length=Z.length/\∀i,i∉l->ρ1[i]?=Z[i]?
 |[],[],Z,ρ1,h=>by cases h;exact{rfl,λ_ _=>rfl}
 |_::_,[],_,_,h=>by cases h
 |[],_::_,_,_,h=>by cases h
 | j :: l, d :: ds, Z, ρ1, h => by
   obtain⟨h1,h2⟩:=ke (ds:=ds) h;refine{by simpa using h1,λi u=>?_}
   rw[h2 i (λz=>u (O6 _ z)),O5 (λz=>u (by rw[z];exact Pm))]
def q9 (h:bV t d Z=some ρ1):ρ1.length=Z.length/\∀i,i∉slots t->ρ1[i]?=Z[i]?:=by
 cases t with
 | one j =>
   cases h;exact{`s,λi u=>O5 (λz=>u (by rw[z];exact Pm))}
 | tup l =>
   cases d with
   |tup v=>exact ke h
   |_=>cases h
 | two j l =>
   obtain⟨e,v,rfl,h⟩:=uz h;obtain⟨h1,h2⟩:=ke h;refine{by simpa using h1,λi u=>?_}
   rw[h2 i (λz=>u (O6 _ z)),O5 (λz=>u (by rw[z];exact Pm))]
def bb.unbind (h:bV t d Z=some ρ1)(c:Clear (slots t) Z)(r:bb fa K μ H σ ρ1):bb fa K μ H σ Z:=by
 obtain⟨h1,h2⟩:=q9 h;refine r.weak h1 λi d e=>?_;by_cases j:i∈slots t
 ·exact absurd e (c i j d)
 ·rw[h2 i j];exact e
def RelM.writeP (h:RelM fa K μ H M)(e:a∈μ.priv)(v:H a=some (.lst vs)):RelM fa K μ (upd H a (.lst ws)) M:=by
 have x:ExtW μ H μ (upd H a (.lst ws)):=ExtW.write v (.inr e);refine{λk B q=>?_,h.out,h.oout,h.inj,h.oinj,h.sep,λb y=>{?_,(h.pv b y).2}}
 ·rcases h.at' k B q with⟨b,u,h1,h2,h3⟩|⟨b,h1,h2,h3⟩
  ·have E:b≠a:=λz=>(h.pv a e).2 k (by rw[h1,z])
   exact .inl {b,u,h1,by rw[ao E];exact h2,h3.extW x}
  ·exact .inr {b,h1,h2,h3.extW x (ao (h3.nl v))}
 ·by_cases j:b=a
  ·subst j;exact⟨ws,bH⟩
  ·obtain⟨u,q⟩:=(h.pv b y).1;exact{u,by rw[ao j];exact q}
def eT.writeP (e:a∈μ.priv)(h:H a=some (.lst vs)):eT a μ H μ (upd H a (.lst ws)):=
 {ExtW.write h (.inr e),rfl,λb _ n=>by rw[ao n]}
end
abbrev PA:=Mu->Hp->List D->Prop
def xF (A:PA):Prop:=∀μ H μ' H' h,Ext μ H μ' H'->A μ H h->A μ' H' h
def LA (fa:Fa)(K:OU)(a:Addr):PA:=λμ H h=>a∈μ.priv/\∃j,H a=some (.lst j)/\aB fa K μ H h j
def LA.stab {K:OU}:xF (LA fa K a):=λ_ _ _ _ _ x ⟨h1,h,h2,h3⟩=>{by rw[x.pr];exact h1,h,by rw[x.pk _ h1];exact h2,h3.ext x}
def WB (fa:Fa)(K:OU)(A:PA)(a:Addr)(μ:Mu)(H:Hp)(Z:Env)(Q:L2.St->Hp->Prop)(acc:List D)(M':Mem):Prop:=
 ∀h H' μ',eT a μ H μ' H'->bb fa K μ' H' h Z->RelM fa K μ' H' M'->A μ' H' acc->Q h H'
def WB.ext {K:OU}(h:WB fa K A a μ H Z Q acc M')(x:eT a μ H μ1 H1):WB fa K A a μ1 H1 Z Q acc M':=
 λj H' μ' y e m h1=>h j H' μ' (x.trans y) e m h1
def DB (fa:Fa)(X:Cx)(A:PA)(a:Addr)(W:List Nat)(body:Sem Unit)(g:Env->List D->Mem->Res (List D)):Prop:=
 ∀(h:List (Addr×Obj)) (s:O0) (σ:L2.St) (H:Hp) (Q:L2.St->Hp->Prop) (μ:Mu) (Z:Env) (M:Mem) (j:List D),Inv X h σ H s->bb fa X.K μ H σ Z->RelM fa X.K μ H M->Clear W Z->A μ H j->
  ae (g Z j M) (WB fa X.K A a μ H Z Q)->wpAny (model X.prog X.w) X.A body (λ_ v=>∃u H',Inv X h u H' v/\Q u H') X.xe s
def cy (ge:Env->Mem->Res D):Env->List D->Mem->Res (List D):=λZ h M=>(ge Z M).bind λx M=>if h.length<sz then .ok (h++[x]) M else .bad
def M8 (j:Env->Mem->Res Bool)(g:Env->List D->Mem->Res (List D)):Env->List D->Mem->Res (List D):=λZ h M=>(j Z M).bind λk M=>if k then g Z h M else .ok h M
def dr (t:fg)(g:Env->List D->Mem->Res (List D))(Z:Env):List D->D->Mem->Res (List D):=λh d M=>(bL M (bV t d Z)).bind λρ1 M=>g ρ1 h M
def tX (t:fg)(j:Env->Mem->Res Walk)(g:Env->List D->Mem->Res (List D)):Env->List D->Mem->Res (List D):=λZ h M=>(j Z M).bind λw M=>c6 (dr t g Z) w h M
section
variable{fa:Fa}{X:Cx}{a:Addr}
set_option tactic.hygienic true in
def uf (he:DE fa X elt ge):DB fa X (LA fa X.K a) a [] (eval elt X.env >>= λx=>call (.builtin "list.append") [.ref a,x] >>= λ_=>pure ()) (cy ge):=by
 intro z s σ H Q μ Z M Y I P hM hc ⟨R,J,hH,hr⟩ h;obtain⟨x,W,e,q⟩:=ax h;split at q
 ·next hz=>
  refine tqa (aI (he z s σ H (λv y=>∃j,Ext μ H j y/\RelM fa X.K j y W/\Rep fa X.K j y x v) I {μ,Z,M,P,hM,?_}) λu s1 ⟨v,y,S,rv,j,F,O,r1⟩=>?_)
  ·rw[e];exact λv y j F O r1=>⟨j,F,O,r1⟩
  have B:y a=some (.lst J):=by rw[F.pk a R];exact hH
  have E:a∈j.priv:=by rw[F.pr];exact R
  have hl:J.length<sizeLine:=by rw[hr.length,<- dm];exact hz
  refine tqa (aI (lJ z s1 σ y (.ref a) [v] (.ref a) [u] (λ_ L=>L=upd y a (.lst (J++[v]))) S rfl (.cons rv .nil) ⟨a,J,v,rfl,rfl,B,hl,rfl⟩) λ_ s2 ⟨_,L,U,_,e2⟩=>tqb {σ,L,U,?_});subst e2;have xd:eT a j y j (upd y a (.lst (J++[v]))):=eT.writeP E B;exact q σ _ j (F.toD.trans xd) ((P.ext F).extW xd.toExtW) (O.writeP E B) {E,_,bH,((hr.ext F).append (.one r1)).extW xd.toExtW}
 ·exact q.elim
def LU (O:xF A)(U:DT fa X c gc)(S:DB fa X A a W body g) :
 DB fa X A a W (isTrue c X.env (eval c X.env) >>= λok=>if ok=true then body else pure ()) (M8 gc g):=by
 intro u s σ H Q μ Z M B I E R Y L h;obtain⟨k,J,e,q⟩:=ax h;refine tqa (aI (U u s σ H (λb y=>b=k/\∃j,Ext μ H j y/\RelM fa X.K j y J) I {μ,Z,M,E,R,?_}) λb s1 ⟨y,F,P,j,v,z⟩=>?_)
 ·rw[e];exact λy j v z=>⟨rfl,j,v,z⟩
 subst P;cases b with
 | true =>
   rw[if_pos rfl];exact S u s1 σ y Q j Z J B F (E.ext v) z Y (O _ _ _ _ _ v L) (aQ q λ_ _ w=>w.ext v.toD)
 | false =>
   rw[if_neg Pq];exact tqb {σ,y,F,q σ y j v.toD (E.ext v) z (O _ _ _ _ _ v L)}
def qj (sA:xF A)
 (heq:compTurn ce k (.ref it) (.ref a) X.env=(standAt p >>= λ_=>pyNext (.ref it) >>= λr=>match r with
  |none=>pure (.done .next)
  |some v=>letOwnedTupleGo tg (.ref it) v >>= λ_=>assign tg X.env v >>= λ_=>body >>= λ_=>again (.compLoop ce k (.ref it) (.ref a) X.env)))
 (hd:(model X.prog X.w).den (.compLoop ce k (.ref it) (.ref a) X.env)=(compTurn ce k (.ref it) (.ref a) X.env).onRaise (λx=>do noteFrame x X.env;theTreesLotGoes x)/\X.A.under (.compLoop ce k (.ref it) (.ref a) X.env)=X.A) (hx:X.xe=FF) (U:X.calm=true) (T:Turn X.prog X.w X.K tg J fp it tn) (hg:PG X tg (gT fa X.K t)) (S:DB fa X A a W body g) (hW:∀i∈W,i∉slots t)
 (I:Inv X pins σ H s) (st:tn 0 s.heap) (hf:∀b∈fp,eR X pins H b) (hE:bb fa X.K μ H σ Z) (hM:RelM fa X.K μ H M)
 (hcl:Clear (slots t++W) Z) (hA:A μ H acc) (wk:dQ fa X.K μ H w J) (q:ae (c6 (dr t g Z) w acc M) (WB fa X.K A a μ H Z Q)) :
 codeAny (model X.prog X.w) X.A (.compLoop ce k (.ref it) (.ref a) X.env) (λr Y=>r=.ok .next/\∃j H',Inv X pins j H' Y/\Q j H') s:=by
 have stat:∀{H':Hp},(∀b∈fp,H' b=none)->∀b∈fp,eR X pins H' b:=λhn b S=>{hn b S,(hf b S).2};have clt:=λi hi=>hcl i (Qh _ hi);have clW:∀d ρ1,bV t d Z=some ρ1->Clear W ρ1:=λd ρ1 e i hi d' z=>by
  rw[(q9 e).2 i (hW i hi)] at z;exact hcl i (PF _ hi) d' z
 let P:Nat->Nat->O0->Prop:=λm i Y=>∃j H' μ' M' B,Inv X pins j H' Y/\tn i Y.heap/\(∀b∈fp,H' b=none)/\eT a μ H μ' H'/\bb fa X.K μ' H' j Z/\RelM fa X.K μ' H' M'/\A μ' H' B/\
  ae (fx (dr t g Z) w m i B M') (WB fa X.K A a μ H Z Q)
 have P0:∃m,P m 0 s:={_,σ,H,μ,M,acc,I,st,λb S=>(hf b S).1,.refl,hE,hM,hA,q};obtain⟨m0,P0⟩:=P0;have hturn:∀(n:Nat) (i:Nat) (s3:O0),P n i s3->wpAny (model X.prog X.w) X.A (pyNext (.ref it)) (λr y=>match r with
  |none=>(∃j H',Inv X pins j H' y/\Q j H')
  |some v=>wpAny (model X.prog X.w) X.A (letOwnedTupleGo tg (.ref it) v) (λ_ F=>wpAny (model X.prog X.w) X.A (assign tg X.env v) (λ_ L=>wpAny (model X.prog X.w) X.A body (λ_ O=>∃m,m<n/\P m (i+1) O) FF L) FF F) FF y) FF s3:=by
  rintro n i s3 ⟨σ3,H3,E,M3,R,I3,st3,fr3,x3,hE3,hM3,hA3,q3⟩;have one:∀(d:D) (rest:List D->Mem->Res (List D)) (next:List D->Mem->Prop),J.go i H3->(∀x H',J.yld i H3 x H'->Ext E H3 E H'/\RelM fa X.K E H' M3/\Rep fa X.K E H' d x)->ae ((dr t g Z R d M3).bind rest) (WB fa X.K A a μ H Z Q)->
   (∀j H' μ' M' B Y,Inv X pins j H' Y->tn (i+1) Y.heap->(∀b∈fp,H' b=none)->eT a μ H μ' H'->bb fa X.K μ' H' j Z->RelM fa X.K μ' H' M'->A μ' H' B->ae (rest B M') (WB fa X.K A a μ H Z Q)->∃m,m<n/\P m (i+1) Y)->
   wpAny (model X.prog X.w) X.A (pyNext (.ref it)) (λr y=>match r with
    |none=>(∃j H',Inv X pins j H' y/\Q j H')
    |some v=>wpAny (model X.prog X.w) X.A (letOwnedTupleGo tg (.ref it) v) (λ_ F=>wpAny (model X.prog X.w) X.A (assign tg X.env v) (λ_ L=>wpAny (model X.prog X.w) X.A body (λ_ O=>∃m,m<n/\P m (i+1) O) FF L) FF F) FF y) FF s3:=by
   intro d rest next go yl qd fin
   refine aI (T.item X rfl rfl rfl U i pins s3 σ3 H3 FF I3 (stat fr3) st3 go) λr s4 ⟨u,hr4,h4⟩=>?_;subst hr4;refine aI h4 λ_ s5 ⟨x,H5,I5,r5,y5,st5,fr5⟩=>?_;obtain⟨x5,hM5,rd⟩:=yl x H5 y5;have I5':=I5.pinned (stat fr5) (T.obj _ _ st5);obtain⟨acc6,M6,e6,q6⟩:=ax qd;obtain⟨ρ1,M7,e7,e8⟩:=ez e6;cases eb:bV t d Z with
   |none=>rw[eb] at e7;cases e7
   | some ρ2 =>
     rw[eb] at e7;cases e7;have hg':=hg _ s5 σ3 H5 x u (λj H'=>H'=H5/\bb fa X.K E H5 j ρ1) I5' r5 {E,Z,_,d,ρ1,hE3.ext x5,hM5,rd,eb,λσ1 h1=>⟨rfl,h1⟩};rw[hx] at hg';refine aI hg' λ_ s6 ⟨σ6,H6,I6,eH,hE6⟩=>?_;subst eH;have hb':=S _ s6 σ6 H6 (λj H'=>∃μ',eT a E H6 μ' H'/\bb fa X.K μ' H' j ρ1/\RelM fa X.K μ' H' M6/\A μ' H' acc6) E ρ1 _ R I6 hE6 hM5 (clW d ρ1 eb) (sA _ _ _ _ _ x5 hA3) (by
      rw[e8];exact λj H' μ' z1 z2 z3 z4=>⟨μ',z1,z2,z3,z4⟩)
     rw[hx] at hb';refine aI hb' λ_ s7 ⟨σ7,H7,I7,μ7,x7,hE7,hM7,hA7⟩=>?_;refine fin σ7 H7 μ7 M6 acc6 s7 I7.unpinned (T.keep _ _ _ st5 λb S o e=>(I7.pin (b,o) (PF _ (PF _ (ip S e)))).1) (λb S=>?_) ((x3.trans x5.toD).trans x7) (hE7.unbind eb clt) hM7 hA7 q6;obtain⟨o,e,dd⟩:=T.obj _ _ st5 b S;exact(I7.pin (b,o) (PF _ (PF _ (ip S e)))).2.1
  have stop:J.stop i H3->ae (.ok R M3) (WB fa X.K A a μ H Z Q)->wpAny (model X.prog X.w) X.A (pyNext (.ref it)) (λr y=>match r with
   |none=>(∃j H',Inv X pins j H' y/\Q j H')
   |some v=>wpAny (model X.prog X.w) X.A (letOwnedTupleGo tg (.ref it) v) (λ_ F=>wpAny (model X.prog X.w) X.A (assign tg X.env v) (λ_ L=>wpAny (model X.prog X.w) X.A body (λ_ O=>∃m,m<n/\P m (i+1) O) FF L) FF F) FF y) FF s3:=λhs q=>by
   refine aI (T.done X rfl rfl rfl U i pins s3 σ3 H3 FF I3 (stat fr3) st3 hs) λr s4 ⟨hr4,I4⟩=>?_;subst hr4;exact{σ3,H3,I4,q σ3 H3 E x3 hE3 hM3 hA3}
  cases n with
  |zero=>exact q3.elim
  | succ n =>
    unfold fx at q3;cases e2:w M3 with
    |none=>rw[e2] at q3;exact q3.elim
    | some ds =>
      rw[e2] at q3;dsimp only at q3;obtain⟨go,stp⟩:=wk E H3 M3 ds x3.toExtW hM3 e2;cases ed:ds[i]? with
      | none =>
        rw[ed] at q3;exact stop (stp i (List.getElem?_eq_none_iff.mp ed)) q3
      | some d =>
        rw[ed] at q3;obtain⟨g1,g2⟩:=go i d ed;refine one d (fx (dr t g Z) w n (i+1)) (λ_ _=>True) g1 g2 q3 ?_;intro j H' μ' M' B Y z1 z2 z3 z4 z5 z6 z7 z8;exact{n,`a,j,H',μ',M',B,z1,z2,z3,z4,z5,z6,z7,z8}
 refine zX heq hd (λn Y=>∃i,P n i Y) (λn s3 ⟨i,h3⟩=>?_) m0 {0,P0};refine aI (hturn n i s3 h3) λr s1 h=>?_;cases r with
 |none=>exact⟨rfl,h⟩
 |some v=>exact aI h λ_ s2 h=>aI h λ_ s3 h=>aI h λ_ s4 ⟨m,hm,h⟩=>{m,hm,i+1,h}
end
section
variable{prog:PH}{w:PC}{A:Qx}{s:O0}{R:Result->O0->Prop}
def rH {j t1 B t2 y:Expr}
 (E:codeAny (model prog w) A (.compLoop (.ListComp j [{t1,B,f1,0},{t2,y,f2,0}] scope pos) 1 it acc env) R s)
 (h:wpAny (model prog w) A (pyIter it) (λu v=>codeAny (model prog w) A (.compLoop (.ListComp j [{t1,B,f1,0},{t2,y,f2,0}] scope pos) 1 u acc env) R v)
  (notedBy (model prog w) A env λx v=>R (.error x) v) s) :
 codeAny (model prog w) A (.compStart (.ListComp j [{t1,B,f1,0},{t2,y,f2,0}] scope pos) 1 it acc env) R s:=by
 refine codeAny_of_tree ?_;refine wpAny_notedAt ?_;refine tqa (wpAny_askSetting (wpAny_ite ?_));split
 ·first
   |exact tqa (tqb (tqb (And.intro rfl E)))
   |exact tqb (And.intro rfl E)
 ·first
   |exact tqa (wpAny_rule (tqa (wpAny_standAt (tqa (wpAny_mono h (λu v z=>tqb (And.intro rfl z)) λ_ _ x=>x)))))
   |(refine tqa (wpAny_rule ?_);show wpAny _ _ (standAt y.pos >>= _) _ _ s;exact tqa (wpAny_standAt (tqa (wpAny_mono h (λu v z=>tqb (And.intro rfl z)) λ_ _ x=>x))))
end
section
variable{fa:Fa}{X:Cx}{a:Addr}
def J4 {y t1 W t2 B:Expr}(hx:X.xe=FF)(F:X.calm=true)(hi:DI fa X t2 B gw)(hg:PG X t2 (gT fa X.K t))(he:DE fa X y ge)
 (hs:∀x,foldedSetIterable B X.env x=pure x) :
 DB fa X (LA fa X.K a) a (slots t) (eval B X.env >>= λx=>standAt B.pos >>= λ_=>foldedSetIterable B X.env x >>= λx=>holding [x] (pyIter x) >>= λj=>runOwn (.compStart (.ListComp y [{t1,W,[],0},{t2,B,[],0}] scope pos) 1 j (.ref a) X.env) X.env >>= λ_=>pure ()) (tX t gw (cy ge)):=by
 intro E s σ H Q μ Z M acc I hE hM hc hA h;obtain⟨w,M1,e,q⟩:=ax h;refine tqa (aI (hi E s σ H (λJ U=>∃u,Ext μ H u U/\RelM fa X.K u U M1/\dQ fa X.K u U w J) I {μ,Z,M,hE,hM,?_}) λv s1 h1=>?_)
 ·rw[e];exact λJ U u x1 m1 Y=>⟨u,x1,m1,Y⟩
 refine tqa (wpAny_standAt (tqa (wpAny_of_eq (hs v) (tqa (tqo (aI h1 λitv s2 h2=>?_))))));obtain⟨it,fp,tn,J,H2,ei,I2,T,P,f2,μ2,x2,m2,Y⟩:=h2;subst ei;have go:=qj LA.stab (AR y t1 W t2 B scope pos (.ref it) (.ref a) X.env) ⟨rfl,rfl⟩ hx F T hg (uf he) (λi hi=>nomatch hi) I2 P f2 (hE.ext x2) m2 (by simpa using hc) (LA.stab _ _ _ _ _ x2 hA) Y (aQ q λ_ _ z=>z.ext x2.toD)
 refine tqa (wpAny_runOwn ?_);have L:codeAny (model X.prog X.w) (X.A.mark none) (.compLoop (.ListComp y [{t1,W,[],0},{t2,B,[],0}] scope pos) 1 (.ref it) (.ref a) X.env) (λr O=>match r with|.ok f=>wpAny (model X.prog X.w) X.A (pure ():Sem Unit) (λ_ O=>∃S H',Inv X E S H' O/\Q S H') X.xe O|.error e=>cameBackBy (model X.prog X.w) X.A X.env X.xe e O) s2:=
  codeAny_mono go λr O ⟨er,z⟩=>by subst er;exact tqb z
 exact rH L (T.self _ 0 _ _ _ P L)
end
section
variable{fa:Fa}{K:OU}{μ1 μ':Mu}{H1 H':Hp}{M1 M':Mem}{a:Addr}
noncomputable def IW (μ:Mu)(a:Addr):Mu:={μ.pub,a::μ.priv,μ.ob}
def lX (h:RelM fa K μ1 H1 M1)(j:H1 a=none)(o:HO):ExtW μ1 H1 (IW μ1 a) (upd H1 a o):=by
 have x:ExtW μ1 H1 μ1 (upd H1 a o):=(Ext.alloc h j).toExtW;refine{x.mu,x.tups,λb u e n=>{(x.lsts b u e n).1,λz=>?_},x.frzs,x.exts,x.obs};rcases z with z|z
 ·exact n (.inl z)
 ·rcases PJ.mp z with z|z
  ·subst z;rw[j] at e;cases e
  ·exact n (.inr z)
def yS (h:RelM fa K μ1 H1 M1)(j:H1 a=none)(vs:List V):RelM fa K (IW μ1 a) (upd H1 a (.lst vs)) M1:=by
 have x:=lX h j (.lst vs);refine{λk v e=>(h.at' k v e).imp (λ⟨b,u,h1,h2,h3⟩=>{b,u,h1,by rw[ao (aO h2 j)];exact h2,h3.extW x}) λ⟨b,h1,h2,h3⟩=>{b,h1,h2,h3.extW x (ao (h3.new j))},h.out,h.oout,h.inj,h.oinj,h.sep,λb y=>?_}
 ·rcases PJ.mp y with z|z
  ·subst z;exact{⟨vs,bH⟩,λk e=>by
    obtain⟨_,_,_,q,_⟩:=h.mu_lt e;rw[j] at q;cases q}
  ·obtain⟨⟨u,q⟩,n⟩:=h.pv b z;exact{{u,by rw[ao (aO q j)];exact q},n}
set_option tactic.hygienic true in
def Fm (h:RelM fa K μ1 H1 M1)(ha:H1 a=none)(x:eT a (IW μ1 a) (upd H1 a (.lst [])) μ' H')(v:RelM fa K μ' H' M')(hH:H' a=some (.lst vs))(hr:aB fa K μ' H' acc vs)
 (q:ae (a7 m acc M') (aZ fa K μ1 H1 Q)):Q (.ref a) H':=by
 have S:=λz=>h.pne ha z rfl;have E:=x.pr;have U:∀k,μ'.pub k≠some a:=(v.pv a (by rw[E];exact Pm)).2
 have F:=lX h ha (.lst []);have xe:Ext μ1 H1 ⟨μ'.pub,μ1.priv,μ'.ob⟩ H':=by
  refine{{λk b e=>x.mu k b e,λb y e=>x.tups b y (F.tups b y e),λb y e n=>?_,λb ob u e=>x.frzs b ob u (F.frzs b ob u e),λb o i e=>x.exts b o i (F.exts b o i e),λk b e=>x.obs k b (F.obs k b e)},rfl,λb B=>?_}
  ·obtain⟨H,I⟩:=F.lsts b y e n;obtain⟨z3,z4⟩:=x.lsts b y H I;refine{z3,λz=>z4 ?_};rcases z with z|z
   ·exact .inl z
   ·exact .inr (by rw[E];exact O6 _ z)
  ·have nb:b≠a:=λe=>S (by rw[<- e];exact B)
   rw[x.pk b (O6 _ B) nb,ao nb]
 have Y:ExtW μ' H' ⟨μ'.pub,μ1.priv,μ'.ob⟩ H':={λ_ _ e=>e,λ_ _ e=>e,λb y e n=>{e,λz=>n (z.elim .inl λz=>.inr (by rw[E];exact O6 _ z))},λ_ _ _ e=>e,λ_ _ _ e=>e,λ_ _ e=>e}
 have me:RelM fa K ⟨μ'.pub,μ1.priv,μ'.ob⟩ H' M':={λk L e=>(v.at' k L e).imp (λ⟨b,y,h1,h2,h3⟩=>{b,y,h1,h2,h3.extW Y}) λ⟨b,h1,h2,h3⟩=>{b,h1,h2,h3.extW Y rfl},v.out,v.oout,v.inj,v.oinj,v.sep,λb B=>v.pv b (by rw[E];exact O6 _ B)}
 have re:=hr.extW Y;have R:¬ (⟨μ'.pub,μ1.priv,μ'.ob⟩:Mu).Mt a:=λz=>z.elim (λ⟨k,e⟩=>U k e) S;unfold a7 at q;split at q
 ·cases m with
  | false =>
    exact q (.ref a) H' _ xe me {a,vs,rfl,⟨hH,R⟩,re}
  | true =>
    have pc:∀k b,(eZ ⟨μ'.pub,μ1.priv,μ'.ob⟩ M'.length a).pub k=some b->(k=M'.length/\b=a)\/(k≠M'.length/\μ'.pub k=some b):=λk b e=>by
     have e:(if k=M'.length then some a else μ'.pub k)=some b:=e;split at e
     ·next z=>cases e;exact .inl ⟨z,rfl⟩
     ·next z=>exact .inr ⟨z,e⟩
    have O:∀k b,μ'.pub k=some b->(eZ ⟨μ'.pub,μ1.priv,μ'.ob⟩ M'.length a).pub k=some b:=λk b e=>by
     show(if k=M'.length then some a else μ'.pub k)=some b;split
     ·next z=>rw[z,v.out _ (OZ _)] at e;cases e
     ·exact e
    have ac:(eZ ⟨μ'.pub,μ1.priv,μ'.ob⟩ M'.length a).pub M'.length=some a:=by
     show(if M'.length=M'.length then some a else _)=some a;rw[if_pos rfl]
    have nc:∀b,¬ μ'.Mt b->¬ (eZ ⟨μ'.pub,μ1.priv,μ'.ob⟩ M'.length a).Mt b:=λb n z=>by
     rcases z with⟨k,z⟩|z
     ·rcases pc k b z with⟨_,e⟩|⟨_,e⟩
      ·exact n (.inr (by rw[E,e];exact Pm))
      ·exact n (.inl ⟨k,e⟩)
     ·exact n (.inr (by rw[E];exact O6 _ z))
    have xc:ExtW μ' H' (eZ ⟨μ'.pub,μ1.priv,μ'.ob⟩ M'.length a) H':={O,λ_ _ e=>e,λb y e n=>{e,nc b n},λ_ _ _ e=>e,λ_ _ _ e=>e,λ_ _ e=>e};have W:Ext μ1 H1 (eZ ⟨μ'.pub,μ1.priv,μ'.ob⟩ M'.length a) H':=by
     refine{{λk b e=>O k b (x.mu k b e),xe.tups,λb y e n=>?_,xe.frzs,xe.exts,xe.obs},rfl,xe.pk};obtain⟨H,I⟩:=F.lsts b y e n;obtain⟨z3,z4⟩:=x.lsts b y H I;exact{z3,nc b z4}
    have P:RelM fa K (eZ ⟨μ'.pub,μ1.priv,μ'.ob⟩ M'.length a) H' (M'++[acc]):=by
     refine{λk L e=>?_,λk hk=>?_,λk hk=>v.oout k (by simp at hk;omega),λj k b e1 e2=>?_,v.oinj,λk b z=>?_,λb B=>?_}
     ·by_cases hk:k<M'.length
      ·rw[O4 hk] at e;rcases v.at' k L e with⟨b,y,h1,h2,h3⟩|⟨b,h1,h2,h3⟩
       ·exact .inl {b,y,O k b h1,h2,h3.extW xc}
       ·exact .inr {b,h1,by show(if k=M'.length then some a else μ'.pub k)=none;rw[if_neg (Pu hk)];exact h2,h3.extW xc rfl}
      ·have M:k=M'.length:=by
        have:=(OV.mp e).1;simp at this;omega
       subst M;rw[Pp (OZ _)] at e;simp at e;subst e;exact .inl {a,vs,ac,hH,hr.extW xc}
     ·simp at hk;show(if k=M'.length then some a else μ'.pub k)=none;rw[if_neg `a]
      exact v.out k `a
     ·rcases pc j b e1 with⟨j1,J⟩|⟨j1,J⟩<;>rcases pc k b e2 with⟨k1,k2⟩|⟨k1,k2⟩
      ·omega
      ·exact absurd (J ▸ k2) (U k)
      ·exact absurd (k2 ▸ J) (U j)
      ·exact v.inj j k b J k2
     ·show μ'.ob (au k)=none;rcases pc k b z with⟨e,_⟩|⟨_,e⟩
      ·rw[e];exact v.oout _ (OZ _)
      ·exact v.sep k b e
     ·have B:=B;obtain⟨H,I⟩:=v.pv b (by rw[E];exact O6 _ B)
      refine{H,λk e=>?_};rcases pc k b e with⟨_,e⟩|⟨_,e⟩
      ·exact S (e ▸ B)
      ·exact I k e
    exact q (.ref a) H' _ W P ⟨a,rfl,ac⟩
 ·exact q.elim
end
section
variable{fa:Fa}{X:Cx}
def cz (m:Bool)(n:Nat)(t:fg)(j:Env->Mem->Res Walk)(g:Env->List D->Mem->Res (List D)):Env->Mem->Res D:=λh M=>
 (j h M).bind λw M=>(c6 (dr t g (List.replicate n none++h)) w [] M).bind (a7 m)
def pA (X:Cx)(u B h:Expr)(y:List Expr)(rest:List Q2)(j:Scope)(pos:Pos)(body:Addr->Qu->Sem Unit):Prop:=
 ∀(z a:Addr) (env:Qu),compTurn (.ListComp u ({B,h,y,0}::rest) j pos) 0 (.ref z) (.ref a) env=(standAt h.pos >>= λ_=>pyNext (.ref z) >>= λr=>match r with
  |none=>pure (.done .next)
  |some v=>letOwnedTupleGo B (.ref z) v >>= λ_=>assign B env v >>= λ_=>body a env >>= λ_=>again (.compLoop (.ListComp u ({B,h,y,0}::rest) j pos) 0 (.ref z) (.ref a) env))
structure Block (fa:Fa) (X:Cx) (A:Addr->PA) (own bn:List Str) (scope:Scope) (tg:Expr) (t:fg) (W:List Nat) (body:Addr->Qu->Sem Unit) (g:Env->List D->Mem->Res (List D)):Prop where
 pg:∀cl C fp s H,PG (fq X own bn scope cl C fp s H) tg (gT fa X.K t)
 db:∀cl C fp s H a,DB fa (fq X own bn scope cl C fp s H) (A a) a W (body a (compEnvC scope cl C X.env)) g
def qW (h:∀i∈W,i<n):Clear W (List.replicate n none++Z):=λi j d e=>by
 rw[O4 (by simpa using h i j),Q0] at e
 simp[h i j] at e
def sP {K:OU}(n:Nat)(h:bb fa K μ H σ Z):bb fa K μ H (List.replicate n none++σ) (List.replicate n none++Z):=by
 refine{by simp[h.len],λi d e=>?_}
 by_cases j:i<n
 ·rw[O4 (by simpa using j),Q0] at e
  simp[j] at e
 ·rw[Pp `o] at e ⊢
  simp only[List.length_replicate] at e ⊢;exact h.at' _ d e
def oS {rest:List Q2}
 (S:eU X own bn scope) (R:X.calm=true) (hi:DI fa X tg iter gw) (B:Block fa X (LA fa X.K) own bn scope tg t W body g) (hT:pA X elt tg iter ifs rest scope pos body) (hW:∀i∈W,i∉slots t) (hn:∀i∈slots t++W,i<own.length)
 (hs:∀x,foldedSetIterable iter X.env x=pure x)
 (I:Inv X pins σ H s) (hE:bb fa X.K μ H σ Z) (hM:RelM fa X.K μ H M) (h:ae (cz m own.length t gw g Z M) (aZ fa X.K μ H Q))
 (post:∀(a C:Addr) (s':O0) (H':Hp),Inv X pins σ H' s'->Q (.ref a) H'->(∃m,s'.heap.Ns C m)->(∀σ2 E s2,Inv X pins σ2 E s2->(H' C=none->E C=none)->E C=none/\∀P,QE C s2.heap P->Inv X pins σ2 E {s2 with heap:=P})->H' C=none->(C≠X.env.locals/\∀x c,X.env.cells.lookup x=some c->c≠C)->compPost (model X.prog X.w) X.A X.xe use QQ (.ref a) C (.ok .next) s') :
 wpAny (model X.prog X.w) X.A (comprehension (.ListComp elt ({tg,iter,ifs,0}::rest) scope pos) scope X.env p0 (newList []) false (eval iter X.env) use) QQ X.xe s:=by
 obtain⟨w,M1,ew,q⟩:=ax h;obtain⟨acc,M2,ea,q2⟩:=ax q;obtain⟨cl,hcl,O,L⟩:=oU λy hy hf=>I.ok.has y.1 (S.free y hy hf);refine wpAny_comprehension_free rfl hs hcl S.kind S.loc ?_;refine aI (hi pins s σ H (λJ H1=>∃μ1,Ext μ H μ1 H1/\RelM fa X.K μ1 H1 M1/\dQ fa X.K μ1 H1 w J) I {μ,Z,M,hE,hM,?_}) λv s1 h1=>aI h1 λitv s2 h2=>?_
 ·rw[ew];exact λJ H1 μ1 x1 m1 wk=>⟨μ1,x1,m1,wk⟩
 obtain⟨it,fp,tn,J,E,ei,I2,T,st2,f2,μ2,x2,m2,wk⟩:=h2;subst ei;refine wpAny_newObj_type ?_;have ha:=I2.hok.fresh (OZ _);have I3:Inv X pins σ (upd E s2.heap.objs.size (.lst [])) {s2 with heap:=s2.heap.push {cls:=.type "list",dict:=none,data:=.seq ([]:List OX).toArray}}:=
  I2.laid (λb o e=>OW _ e) (OZ _) {QO _,[],_,.nil,Ph _ rfl}
 generalize hs3:({s2 with heap:=s2.heap.push {cls:=.type "list",dict:=none,data:=.seq ([]:List OX).toArray}}:O0)=s3 at I3 ⊢
 have k3:∀b o,s2.heap.get? b=some o->s3.heap.get? b=some o:=λb o e=>by rw[<- hs3];exact OW _ e
 have fo2:=T.obj _ _ st2;have f3:∀b∈fp,eR X pins (upd E s2.heap.objs.size (.lst [])) b:=λb u=>by
  obtain⟨o,e,_⟩:=fo2 b u;exact{by rw[ao (Pu (Pe e))];exact(f2 b u).1,(f2 b u).2}
 have fo3:∀b∈fp,∃o,s3.heap.get? b=some o:=λb u=>let{o,e,_}:=fo2 b u;{o,k3 b o e}
 obtain⟨CL,U⟩:=DQ S O L (s3.heap.push {cls:=.type "dict",data:=.dict #[]}) (Qt ..);generalize F:cellsFrom (s3.heap.objs.size+1) scope.names cl=cl' at CL U;refine qS ?_;rw[F];have j:(pushCells (s3.heap.push {cls:=.type "dict",data:=.dict #[]}) scope.names).Ns s3.heap.objs.size (λ_=>none):=(Heap.Ns.new s3.heap (.type "dict")).keeps (pushCells_keeps _ _);have k4:∀b o,s3.heap.get? b=some o->(pushCells (s3.heap.push {cls:=.type "dict",data:=.dict #[]}) scope.names).get? b=some o:=λb o e=>pushCells_keeps _ _ b o (OW _ e);generalize pushCells (s3.heap.push {cls:=.type "dict",data:=.dict #[]}) scope.names=h₁ at j k4 U ⊢;clear hcl F O L cl
 rename List (Str×Addr)=>cl
 have I4:=ui (t':=s3.toks) I3 S CL f3 fo3 j k4 U;have Y:=I4.ok;have f4:∀b∈fp,eR (fq X own bn scope cl s3.heap.objs.size fp s3 (upd E s2.heap.objs.size (.lst []))) [] (upd E s2.heap.objs.size (.lst [])) b:=λb u=>
  {(f3 b u).1,(Y.exf b u).1,Y.exfs b u,.inl u,(Y.exf b u).2,λp hp=>nomatch hp}
 have st4:=T.keep _ _ _ st2 λb u o e=>k4 b o (k3 b o e);have x3:=lX m2 ha (.lst []);have go:=qj LA.stab (X:=fq X own bn scope cl s3.heap.objs.size fp s3 (upd E s2.heap.objs.size (.lst []))) (acc:=[]) (hT it s2.heap.objs.size _) ⟨rfl,rfl⟩ rfl R T (B.pg _ _ _ _ _) (B.db _ _ _ _ _ _) hW I4 st4 f4
  (sP own.length ((hE.ext x2).extW x3)) (yS m2 ha []) (qW hn) {Pm,_,bH,rfl} (qu wk x3) (by
   rw[ea];rintro σ' H' μ' z1 z2 z3 ⟨_,vs',z4,z5⟩;exact Fm m2 ha z1 z3 z4 z5 (jR q2 x2))
 have go':codeAny (model X.prog X.w) X.A (.compLoop (.ListComp elt ({tg,iter,ifs,0}::rest) scope pos) 0 (.ref it) (.ref s2.heap.objs.size) (compEnvC scope cl s3.heap.objs.size X.env)) (compPost (model X.prog X.w) X.A X.xe use QQ (.ref s2.heap.objs.size) s3.heap.objs.size) {s3 with heap:=h₁}:=
  codeAny_mono go λr s' ⟨er,σ',H',I',z⟩=>by
   subst er;refine post _ _ s' H' (comp_back I3 f3 I') z (let{m,hn,_}:=I'.loc;⟨m,hn⟩) (λσ2 E s2' I2' hf=>{hf I'.free,λP hs''=>qV I3 (hf I'.free) I2' hs''}) I'.free {PX I3.lt,λx c e z=>by
    obtain⟨v,q⟩:=I3.cell x c e;exact absurd q.lt (by rw[z];exact Qj _)}
 exact codeAny_compStart_list go' (T.self _ 0 _ _ _ st4 go')
def Kb (m:Bool){v z j:Expr}{rest:List Q2}
 (S:eU X own bn scope) (u:X.calm=true) (hi:DI fa X z j gw) (B:Block fa X (LA fa X.K) own bn scope z t W body g) (R:pA X v z j ifs rest scope pos body) (U:∀i∈W,i∉slots t) (hn:∀i∈slots t++W,i<own.length)
 (hs:∀x,foldedSetIterable j X.env x=pure x):DE fa X (.ListComp v ({z,j,ifs,0}::rest) scope pos) (cz m own.length t gw g):=by
 intro F s σ H Q I ⟨μ,Z,M,O,P,h⟩;rw[eval_ListComp];refine oS S u hi B R U hn hs I O P h ?_;intro a C Y H' J q ⟨m,hn⟩ y hf _;exact{m,hn,λL E=>{.ref a,H',(y σ H' Y J id).2 L E,rfl,q}}
def xp (m:Bool){y:Str}{rest:List Q2}
 (S:eU X own bn scope) (j:X.calm=true) (hi:DI fa X tg iter gw) (B:Block fa X (LA fa X.K) own bn scope tg t W body g) (hT:pA X elt tg iter ifs rest scope pos body) (hW:∀i∈W,i∉slots t) (hn:∀i∈slots t++W,i<own.length)
 (hs:∀x,foldedSetIterable iter X.env x=pure x) (hN:X.N.Nodup) (hy:X.N[i]?=some y) (hl:X.env.scope.names.lookup y=some .local)
 (J:swapsWith (.ListComp elt ({tg,iter,ifs,0}::rest) scope pos) (some (.Name y py)) spos.line X.env=pure true) :
 DS fa X (.Assign [.Name y py] (.ListComp elt ({tg,iter,ifs,0}::rest) scope pos) spos) (λZ M=>(cz m own.length t gw g Z M).bind λx M=>(bL M (bV (.one i) x Z)).bind λρ1 M=>.ok (.next ρ1) M):=by
 intro O s σ H D' I ⟨μ,Z,M,L,Y,h⟩;obtain⟨x,M1,ex,q⟩:=ax h;rw[exec_Assign_Name_used _ _ _ _ J];refine tqa (wpAny_standAt (tqa ?_));refine tqa (aI (oS S j hi B hT hW hn hs I L Y (by
  rw[ex];exact λv H' μ' P m1 r1=>q _ H' μ' P ((L.ext P).set r1) m1) ?_) λ_ s' hq=>tqb (tqb hq))
 intro a C s' H' Q q ⟨m,hn⟩ u hf ⟨nL,nC⟩;refine wpAny_assign_Name (qC Q hN hy (.inl hl) (v:=.ref a) rfl (λs2 R ⟨b,hb,E⟩=>?_) (.inr hl));have nb:C≠b:=by
  rcases E with z|z
  ·rw[z];exact nL
  ·exact Qk (nC y b z)
 exact{m,hn.sameBut hb nb,λU F=>{_,H',(u _ H' s2 R id).2 U F,q}}
end
section
variable{X:Cx}{pins:List (Addr×Obj)}{σ:L2.St}{H:Hp}{s:O0}{h':Heap}{t':Nat}{ch:List Addr}
def uW (I:Inv X pins σ H s)(hf:∀b∈ch,eR X pins H b)(k:∀b o,b∉ch->s.heap.get? b=some o->h'.get? b=some o):Inv X pins σ H {s with heap:=h',toks:=t'}:=by
 have j:∀b u,H b=some u->b∉ch:=λb u e z=>by rw[(hf b z).1] at e;cases e
 refine I.step (λb y=>{(hf b y).2.2.2.1,(hf b y).2.1,(hf b y).2.2.2.2.1,(hf b y).2.2.2.2.2}) (λb o _ _ h e _=>k b o h e) (λb o _ _ h e _=>{o.slots,k b o h e}) (λ_ _ _ _ n=>n)
  (λb o h e=>{o,k b o h e}) (λ_ _ e=>e) (λ_ _ _ e=>e) (λb ps e=>{#[],by rw[e];simp}) (λm hm=>?_) (λb u e=>?_) I.bare
 ·obtain⟨o,E,B,ho,r⟩:=hm;exact{o,E,B,k _ o (λz=>(hf _ z).2.1 rfl) ho,r}
 ·refine(I.hok b u e).stay (λc v h q=>k c v ?_ q) (λ_ q=>q) λ_ _ q=>q;rcases h with z|z
  ·rw[z];exact j b u e
  ·exact j c _ z
def qx (I:Inv X pins σ H s)(hf:∀b∈ch,eR X pins H b)(k:∀b o,b∉ch->s.heap.get? b=some o->h'.get? b=some o)(B:s.heap.objs.size<=T)(new:eA X.prog X.w (upd H T o) h' T o) :
 Inv X pins σ (upd H T o) {s with heap:=h',toks:=t'}:=by
 have hn:=I.hok.fresh B;have y:∀b u,H b=some u->b∉ch:=λb u e z=>by rw[(hf b z).1] at e;cases e
 refine I.step (λb h=>{(hf b h).2.2.2.1,(hf b h).2.1,(hf b h).2.2.2.2.1,(hf b h).2.2.2.2.2}) (λb o _ _ j e _=>k b o j e) (λb o _ _ j e _=>{o.slots,k b o j e})
  (λb o _ e n=>by rw[ao (Pu (Pj (Pe e) B))];exact n)
  (λb o j e=>{o,k b o j e}) (λb xs e=>by rw[ao (aO e hn)];exact e) (λb ob u e=>by rw[ao (aO e hn)];exact e) (λb ps e=>{#[],by rw[ao (aO e hn),e];simp}) (λm hm=>?_) (λb u e=>?_) I.bare
 ·obtain⟨o,F,E,ho,r⟩:=hm;exact{o,F,E,k _ o (λz=>(hf _ z).2.1 rfl) ho,r}
 ·by_cases h:b=T
  ·subst h;rw[bH] at e;cases e;exact new
  ·rw[ao h] at e;refine(I.hok b u e).stay (λc v j q=>k c v ?_ q) (λc q=>by rw[ao (aO q hn)];exact q) λc xs q=>by rw[ao (aO q hn)];exact q
   rcases j with z|z
   ·rw[z];exact y b u e
   ·exact y c _ z
end
section
variable{fa:Fa}{X:Cx}{a:Expr}{ga:Env->Mem->Res D}{pos p:Pos}
def g5:∀(ds:List D) (k i:Nat),(dN k ds)[i]?=(ds[i]?).map λd=>.tup [.int ((k+i:Nat):Int),d]
 |[],_,_=>by simp[dN]
 |d::ds,k,0=>by simp[dN]
 | d :: ds, k, i + 1 => by
   have:=g5 ds (k+1) i;simp only[dN,List.getElem?_cons_succ,this]
   congr 1
   funext d
   congr 3
   omega
def i1:∀(ds:List D) (k:Nat),(dN k ds).length=ds.length
 |[],_=>rfl
 |d::ds,k=>by simp[dN,i1 ds]
end
def bF:Bool->Heap->Addr->Array OX->Prop
 |true,h,a,j=>h.IsList a j
 |false,h,a,j=>h.IsTuple a j
def dU:Bool->Heap->Addr->Addr->Nat->Prop
 |true,h,j,a,i=>h.IsListIter j a i
 |false,h,j,a,i=>h.IsTupleIter j a i
def bF.extBut (x:bF b h a its)(hs:Heap.ExtBut c h h')(n:a≠c):bF b h' a its:=by
 cases b<;>(obtain⟨o,ho,r⟩:=x;exact{o,hs a o n ho,r})
def dU.extBut (x:dU b h it a i)(hs:Heap.ExtBut c h h')(n:it≠c):dU b h' it a i:=by
 cases b<;>(obtain⟨o,ho,r⟩:=x;exact{o,hs it o n ho,r})
def bF.at (x:bF b h a its)(k:∀o,h.get? a=some o->h'.get? a=some o):bF b h' a its:=by
 cases b<;>(obtain⟨o,ho,r⟩:=x;exact{o,k o ho,r})
def dU.at (x:dU b h it a i)(k:∀o,h.get? it=some o->h'.get? it=some o):dU b h' it a i:=by
 cases b<;>(obtain⟨o,ho,r⟩:=x;exact{o,k o ho,r})
def dU.obj (x:dU b h it a i):∃o,h.get? it=some o/\∀v,o.data≠.cell v:=by
 cases b<;>(obtain⟨o,ho,c,d⟩:=x;exact{o,ho,λv z=>by rw[d] at z;cases z})
section
variable{prog:PH}{w:PC}{A:Qx}{E:OX->O0->Prop}{s:O0}
def uH {a b:Nat}(h:a≠b):@Ne Addr a b:=h
def G4 {T:Addr}{j:Array OX}{k:Nat}{x:OX}{Q:Unit->O0->Prop}(v:s.heap.get? T=some {cls:=.type "tuple",data:=.seq j})(hz:j.size<=64)
 (h:∀u,u.get? T=some {cls:=.type "tuple",data:=.seq (j.setIfInBounds k x)}->QE T s.heap u->Q () {s with heap:=u}) :
 wpAny (model prog w) A (updateSeq T (·.setIfInBounds k x)) Q E s:=by
 refine wpAny_updateSeq v rfl (h _ ?_ (QF ..)) (Pa hz `d) (by rw[Array.size_setIfInBounds];exact Pa hz `d)
 rw[QG _ v rfl];simp[Obj.mapSeq]
def ij {b:Bool}{y a:Addr}{i:Nat}{j:Array OX}{Q:OX->O0->Prop}(hh:A.handled=none)(h:dU b s.heap y a i)(hl:bF b s.heap a j)
 (I:∀x u,j[i]?=some x->dU b u y a (i+1)->QE y s.heap u->Q x {s with heap:=u})
 (H:j[i]?=none->∀u e,Heap.ExtBut y s.heap u->(∃o,u.get? e=some o/\o.cls=.type "StopIteration")->E (.ref e) {s with heap:=u}):wpAny (model prog w) A (Builtin.SmallTypes.nextOf (.ref y)) Q E s:=by
 cases b with
 | true => cases v : j[i]? with
   |some x=>exact wpAny_nextOf_list_item h hl v λu=>I x u v
   |none=>exact wpAny_nextOf_list_end hh h hl v (H v)
 | false =>
   obtain⟨o,ho,J,hd⟩:=id h;obtain⟨L,B,_,nl,z⟩:=hl;refine tqa (wpAny_callSpecial?_slot h.typeIs F.slot_tuple_iterator_next
    (wpAny_call_entry F.slot_tuple_iterator_next h.typeIs F.entry_tuple_iterator_next ?_ (F.args_tuple_iterator_next_1 _)))
   show wpAny _ _ (field (.ref y) 0 >>= _) _ _ s;refine tqa (tqf ho hd rfl ?_);show wpAny _ _ (if (Value.ref a==Value.none)=true then _ else _) _ _ s;rw[if_neg (show ¬ ((Value.ref a==Value.none)=true) from Pq)];refine tqa (tqf ho hd rfl ?_);refine tqa (wpAny_seqItems B z ?_);cases v:j[i]? with
   | some x =>
     simp only[QB,v];refine tqa (wpAny_setField ho hd `s (tqb {x,rfl,tqb (I x _ v ?_ (QF ..))}))
     exact{_,QG _ ho (Obj.isFreed_of_fields (QU hd _)),(Obj.cls_mapFields ..).trans J,by
      rw[QU hd];simp[rawInt]}
   | none =>
     simp only[QB,v];refine tqa (wpAny_rule (tqa (wpAny_setField ho hd `s ?_)))
     refine tqa ?_;refine tqa (wpAny_newObj_type ?_ (by size_fits))
     refine tqa (wpAny_of_eq (by first|rfl|(simp only[firstArgMember];rfl)) ?_)
     refine wpAny_newObj_type ?_ (by size_fits)
     refine tqa (wpAny_handled ?_);first|rw[show A.in1.handled=none from hh]|rw[hh]
     refine tqa (tqb (wpAny_throw ?_));exact H v _ _ (((QF ..).extBut.push _).push _) {_,Ph _ rfl,rfl}
noncomputable abbrev iO (us:Array OX):Obj:={cls:=.type "tuple",data:=.seq us}
noncomputable def pM (n k j:Nat):List OX:=(List.range' k j).map λk=>Value.ref (n+k)
def xD (n m:Nat)(h j:Heap):Prop:=∀(c:Nat) o,(c<n\/c=n+m\/n+m+2<c)->h.get? c=some o->j.get? c=some o
def xJ (n i k:Nat)(l:List (Bool×Nat))(h:Heap):Prop:=∀(j:Nat) b a,l[j]?=some (b,a)->dU b h (n+j) a (if j<k then i+1 else i)
def Ku (n:Nat)(l:List (Bool×Nat))(xs:Nat->Array OX)(h:Heap):Prop:=∀(j:Nat) b a,l[j]?=some (b,a)->a<n/\bF b h a (xs j)
abbrev pz (h:Heap)(n m:Nat)(v:OX):Prop:=IsZip h (n+m+2) (n+m) (n+m+1) v
def Oy (n m i k:Nat)(l:List (Bool×Nat))(xs:Nat->Array OX)(v h:Heap):Prop:=pz h n m .ellipsis/\(∃u:Array OX,u.size=m/\(∀j<k,u[j]?=(xs j)[i]?)/\h.get? (n+m+1)=some (iO u))/\xJ n i k l h/\Ku n l xs h/\xD n m v h/\h.objs.size=v.objs.size
def C8 {M:Model}{u:Type}{f:OX×Nat->u->Sem (ForInStep u)}{b:u}{Q:u->O0->Prop}(n m:Nat)(I:Nat->O0->Prop)
 (hs:∀k s,k<m->I k s->wpAny M A (f (.ref (n+k),k) b) (λr v=>r=.yield b/\I (k+1) v) E s) (y:∀s,I m s->Q b s):∀(j k:Nat) (s:O0),k+j=m->I k s->wpAny M A (forIn ((pM n k j).zipIdx k) b f) Q E s
 |0,k,s,e,h=>tqb (y s (e ▸ h))
 | j + 1, k, s, e, h => by
   show wpAny M A (forIn ((Value.ref (n+k),k)::(pM n (k+1) j).zipIdx (k+1)) b f) Q E s;rw[List.forIn_cons];refine tqa (aI (hs k s `a h) ?_)
   rintro _ v ⟨rfl,z⟩;exact C8 n m I hs y j (k+1) v `a z
def r9 {n m i:Nat}{l:List (Bool×Nat)}{xs:Nat->Array OX}{us:Array OX}{Q:OX->O0->Prop}(hh:A.handled=none)(hl:l.length=m+1)(h64:m<64)
 (hz:pz s.heap n (m+1) .none) (hTI:s.heap.get? (n+(m+1))=some (iO (pM n 0 (m+1)).toArray)) (hTO:s.heap.get? (n+(m+1)+1)=some (iO us)) (U:us.size=m+1) (hi:xJ n i 0 l s.heap) (H:Ku n l xs s.heap)
 (hQ:∀F us,us.size=m+1->(∀k<m+1,us[k]?=(xs k)[i]?)->pz F n (m+1) (rawInt s.heap.objs.size)->F.get? (n+(m+1)+1)=some (iO us)->xJ n (i+1) 0 l F->F.get? s.heap.objs.size=some (iO us)->xD n (m+1) s.heap F->Q (.ref s.heap.objs.size) {s with heap:=F})
 (hE:∀F e k,k<m+1->(xs k)[i]?=none->xD n (m+1) s.heap F->(∃o,F.get? e=some o/\o.cls=.type "StopIteration")->E (.ref e) {s with heap:=F}) :
 wpAny (model prog w) A (Builtin.«zip.__next__» {[.ref (n+(m+1)+2)],[]}) (λfin s'=>∃v,fin=.done (.ret v)/\Q v s') E s:=by
 show wpAny _ _ (field (.ref (n+(m+1)+2)) 2 >>= _) _ _ _;refine tqa (tqf hz rfl rfl ?_);refine tqa (tqf hz rfl rfl ?_);refine tqa (wpAny_seqItems hTI rfl ?_);refine tqa ?_;refine tqa (tqf hz rfl rfl (tqb ?_));refine tqa (wpAny_rule ?_);refine tqa (tqf hz rfl rfl ?_);refine tqa (wpAny_setField_rec hz `s λh0 hz0 S=>?_)
 have u0:∀(c:Nat) o,c≠n+(m+1)+2->s.heap.get? c=some o->h0.get? c=some o:=λc o ne=>S.extBut c o ne;have mm:∀{j b a},l[j]?=some (b,a)->j<m+1:=λe=>hl ▸ (OV.mp e).1;refine tqa (C8 n (m+1) (λk s'=>∃h,s'={s with heap:=h}/\Oy n (m+1) i k l xs s.heap h) ?_ ?_ (m+1) 0 _ (Nat.zero_add _) {h0,rfl,hz0,{us,U,λ_ z=>absurd z (Rh _),u0 _ _ `a hTO},λj b a e=>(hi j b a e).at λo=>u0 _ o (by have:=mm e;omega),λj b a e=>{(H j b a e).1,(H j b a e).2.at λo=>u0 _ o (by have:=(H j b a e).1;omega)},λc o L=>u0 c o `a,S.1})
 ·rintro k _ hk ⟨h,rfl,hz,⟨us,U,hx,hT⟩,hi,H,kp,sz⟩;obtain⟨⟨b,a⟩,e⟩:∃p,l[k]?=some p:={_,Pd `a}
  have it:=hi k b a e;rw[if_neg (Qj k)] at it;refine tqa (wpAny_onRaise ?_);refine tqa (ij hh it (H k b a e).2 (λx h1 ex j1 u=>tqb ?_) λen h1 e1 u ⟨oe,J,R⟩=>?_)
  ·have O:=u.extBut _ _ (uH `a) hT
   refine tqa (wpAny_seqItems O rfl ?_);refine tqa (G4 O `a λh2 hT2 B=>?_)
   have I:∀(c:Nat) o,c≠n+k->c≠n+(m+1)+1->h.get? c=some o->h2.get? c=some o:=λc o x y z=>B.extBut c o y (u.extBut c o x z);refine tqa (wpAny_letGo (tqb {rfl,h2,rfl,I _ _ `a `a hz,{_,(Array.size_setIfInBounds ..).trans U,λj hj=>?_,hT2},λj b' a' M=>?_,λj b a e=>{(H j b a e).1,(H j b a e).2.at λo=>I _ o (by have:=(H j b a e).1;omega) (by have:=(H j b a e).1;omega)},λc o L x=>I c o `a `a (kp c o L x),by rw[B.1,u.1,sz]}))
   ·by_cases jk:j=k
    ·subst jk;rw[Array.getElem?_setIfInBounds_self_of_lt `a,ex]
    ·rw[Array.getElem?_setIfInBounds_ne (Qk jk),hx j `a]
   ·by_cases jk:j=k
    ·subst jk;cases e.symm.trans M;rw[if_pos (Nat.lt_succ_self _)];exact j1.at λo=>B.extBut _ o (uH `a)
    ·have q:=hi j b' a' M;have:=mm M;rw[show(if j<k+1 then i+1 else i)=if j<k then i+1 else i by split<;>split<;>omega]
     exact q.at λo=>I _ o `a `a
  ·have W:=u _ _ (uH `a) hz
   have hez:e1≠n+(m+1)+2:=λx=>by subst x;rw[W] at J;cases J;simp at R
   exact wpAny_setField_rec W `s λh2 _ B=>hE h2 e1 k hk en (λc o L x=>B.extBut _ _ (uH `a) (u _ _ (uH `a) (kp c o L x))) {oe,B.extBut _ _ hez J,R}
 ·rintro _ ⟨h4,rfl,X,⟨us,U,hx,hT⟩,hi,H,kp,sz4⟩;refine tqa (wpAny_seqItems hT rfl ?_);refine tqa (wpAny_newTuple (hsz:=Pa (show us.toList.length<=64 by rw[QY];omega) `d) ?_)
  have hzlt:=Pe X;refine tqa ?_;have hz6:pz (h4.push (iO us)) n (m+1) .ellipsis:=OW _ X;refine tqa (wpAny_setField_rec hz6 `s λh7 hz7 hs7=>?_)
  refine wpAny_setField_rec hz7 `s λh8 Y hs8=>?_
  have I:∀(c:Nat) o,c≠n+(m+1)+2->(h4.push (iO us)).get? c=some o->h8.get? c=some o:=λc o c1 e=>hs8.extBut _ _ c1 (hs7.extBut _ _ c1 e);refine tqb {_,rfl,?_};have P:=I h4.objs.size _ (PX hzlt) (Ph _ rfl);rw[sz4] at P Y ⊢;refine hQ h8 us U hx Y (I _ _ `a (OW _ hT)) (λj b a e=>?_) P λc o L e=>I c o `a (OW _ (kp c o L e))
  have q:=hi j b a e;rw[if_pos (mm e)] at q;exact q.at λo M=>I _ o (by have:=mm e;omega) (OW _ M)
end
def hI (K:OU)(H:Hp):Bool->Addr->List V->Prop
 |true,a,xs=>c9 K H a xs
 |false,a,xs=>dD K H a xs
noncomputable def dY:D->Bool
 |.tup _=>false
 |_=>true
noncomputable def dG:D->Bool
 |.tup _=>true
 |.lst _=>true
 |.frz _=>true
 |.cell _=>true
 |_=>false
def mv {X:Cx}{u:List (Addr×Obj)}{v:L2.St}{H:Hp}{s:O0}{b:Bool}{a:Addr}{xs:List V}(I:Inv X u v H s)(h:hI X.K H b a xs):∃j:List OX,Vals xs j/\bF b s.heap a j.toArray:=by
 cases b with
 |true=>obtain⟨j,r,p,_⟩:=I.list h;exact⟨j,r,p.isList⟩
 |false=>obtain⟨j,r,p,_⟩:=I.tuple h;exact⟨j,r,p⟩
def kg {X:Cx}{j:List (Addr×Obj)}{v:L2.St}{H:Hp}{s:O0}{b:Bool}{a:Addr}{xs ys:List V}(I:Inv X j v H s)(h:hI X.K H b a xs)(u:hI X.K H b a ys):xs=ys:=by
 cases b with
 |true=>exact I.list_inj h u
 |false=>exact I.tuple_inj h u
def iR {fa:Fa}{X:Cx}{μ:Mu}{H:Hp}{M:Mem}{d:D}{a:Addr}{ds:List D}(v:RelM fa X.K μ H M)(h:Rep fa X.K μ H d (.ref a))(e:bR M d=some ds):∃vs,hI X.K H (dY d) a vs/\aB fa X.K μ H ds vs:=by
 cases d with
 |tup xs=>cases e;obtain⟨u,vs,e,s,r⟩:=h;cases e;exact⟨vs,s,r⟩
 |lst xs=>obtain⟨u,vs,j,s,r⟩:=bA v h (e);cases j;exact⟨vs,s,r⟩
 |frz xs=>obtain⟨u,vs,j,s,r⟩:=bA v h (e);cases j;exact⟨vs,s,r⟩
 |cell k=>obtain⟨u,vs,j,s,r⟩:=bA v h (e);cases j;exact⟨vs,s,r⟩
 |_=>cases e
def iS {fa:Fa}{X:Cx}{y:List (Addr×Obj)}{L:L2.St}{μ:Mu}{H:Hp}{s:O0}{M:Mem}{d:D}{v:V}(I:Inv X y L H s)(F:RelM fa X.K μ H M)(h:Rep fa X.K μ H d v)(e:dG d=true):∃(a:Nat) (j:Array OX),v=.ref a/\bF (dY d) s.heap a j:=by
 have u:∀B,bR M d=some B->∃(a:Nat) (j:Array OX),v=.ref a/\bF (dY d) s.heap a j:=λB z=>by
  obtain⟨a,J,rfl,_,_⟩:=iT F h z;obtain⟨J,s1,_⟩:=iR F h z;obtain⟨j,_,p⟩:=mv I s1;exact⟨a,j.toArray,rfl,p⟩
 cases d with
 |tup xs=>exact u xs rfl
 |lst xs=>exact u xs rfl
 |frz xs=>exact u xs rfl
 | cell k =>
   obtain⟨a,e,hk⟩:=id h;obtain⟨B,_,z,_⟩:=F.mu_lt hk;exact u B z
 |_=>cases e
def bF.lt {b:Bool}{h:Heap}{a:Addr}{j:Array OX}(x:bF b h a j):a<h.objs.size:=by
 cases b<;>(obtain⟨o,ho,r⟩:=x;exact Pe ho)
def bF.push {b:Bool}{h:Heap}{a:Addr}{j:Array OX}(x:bF b h a j)(ob:Obj):bF b (h.push ob) a j:=by
 cases b<;>(obtain⟨o,ho,r⟩:=x;exact{o,OW _ ho,r})
noncomputable def c7 (b:Bool)(a:Addr):Obj:={cls:=.type (if b then "list_iterator" else "tuple_iterator"),data:=.fields #[.ref a,.int 0 0]}
def dU.new {b:Bool}{h:Heap}{j a:Addr}(e:h.get? j=some (c7 b a)):dU b h j a 0:=by
 cases b<;>exact{_,e,rfl,rfl}
def km {prog:PH}{w:PC}{A:Qx}{E:OX->O0->Prop}{s:O0}{b:Bool}{a:Addr}{j:Array OX}{Q:OX->O0->Prop}(h:bF b s.heap a j)(u:Q (.ref s.heap.objs.size) {s with heap:=s.heap.push (c7 b a)}):wpAny (model prog w) A (pyIter (.ref a)) Q E s:=by
 cases b with
 |true=>exact wpAny_pyIter_list h u
 |false=>exact wpAny_pyIter_tuple h u
abbrev je:=List (Bool×Nat)
def Kw (K:OU)(l:je):It:=
 {λi H => ∀ (j : Nat) b a, l[j]? = some (b, a) -> ∃ xs x, hI K H b a xs /\ xs[i]? = some x,
  λi H v u=>∃p h,H p=none/\v=.ref p/\u=upd H p (.tup h)/\h.length=l.length/\∀(j:Nat) b a,l[j]?=some (b,a)->∀xs,hI K H b a xs->h[j]?=xs[i]?,
  λi H=>(∀(j:Nat) b a,l[j]?=some (b,a)->∃xs,hI K H b a xs)/\∃(j:Nat) (b:Bool) (a:Nat) (xs:List V),l[j]?=some (b,a)/\hI K H b a xs/\xs.length<=i}
def xC (n m:Nat)(l:je)(i:Nat)(h:Heap):Prop:=pz h n (m+1) .none/\h.get? (n+(m+1))=some (iO (pM n 0 (m+1)).toArray)/\(∃j:Array OX,j.size=m+1/\h.get? (n+(m+1)+1)=some (iO j))/\xJ n i 0 l h
noncomputable def GJ (n m:Nat):List Addr:=List.range' n (m+4)
def dI {n m b:Nat}:b∈GJ n m↔n<=b/\b<n+(m+4):=List.mem_range'_1
def CV {X:Cx}{u:List (Addr×Obj)}{B:L2.St}{H:Hp}{s:O0}{l:je}(I:Inv X u B H s)(h:∀(j:Nat) b a,l[j]?=some (b,a)->∃xs,hI X.K H b a xs) :
 ∃(vs:Nat->List V) (ws:Nat->List OX),∀(j:Nat) b a,l[j]?=some (b,a)->hI X.K H b a (vs j)/\Vals (vs j) (ws j)/\bF b s.heap a (ws j).toArray:=by
 obtain⟨f,hf⟩:=Classical.skolem.mp λj:Nat=>show ∃p:List V×List OX,∀b a,l[j]?=some (b,a)->hI X.K H b a p.1/\Vals p.1 p.2/\bF b s.heap a p.2.toArray from by
  cases e:l[j]? with
  |none=>exact{([],[]),λ_ _ z=>by cases z}
  | some p =>
    obtain⟨xs,y⟩:=h j p.1 p.2 e;obtain⟨v,r,q⟩:=mv I y;exact{(xs,v),λJ F z=>by cases z;exact⟨y,r,q⟩}
 exact{λj=>(f j).1,λj=>(f j).2,hf}
def CC:∀{us:List OX}{R:Nat->V->Prop},(∀(k:Nat) w,us[k]?=some w->∃y,RelV y w/\R k y)->∃ys,Vals ys us/\∀(k:Nat) y,ys[k]?=some y->R k y
 |[],R,_=>{[],.nil,λ_ _ z=>by simp at z}
 | w :: r, R, h => by
   obtain⟨y,e,q⟩:=h 0 w rfl;obtain⟨ys,v,t⟩:=CC λk w e=>h (k+1) w e;exact{y::ys,.cons e v,λk z e=>match k,e with
    |0,e=>by cases e;exact q
    |k+1,e=>t k z e}
def AO {P:PH}{w:PC}{K:OU}{M:List Expr}{kk:Nat}{pos:Pos}(n m:Nat)(l:je)(hl:l.length=m+1)(O:m<64)(hn:∀(j:Nat) b a,l[j]?=some (b,a)->a<n) :
 Turn P w K (.Tuple M kk pos) (Kw K l) (GJ n m) (n+(m+1)+2) (λi h=>xC n m l i h) where
 mem:=dI.mpr `a
 obj:=λi h ⟨h1,h2,⟨us,_,h3⟩,B⟩ (b:Nat) u=>by
  replace u:=dI.mp u;by_cases c:b<n+(m+1)
  ·obtain⟨j,rfl⟩:∃j,b=n+j:={b-n,`a}
   exact(B j _ _ (Pd `a)).obj
  ·rcases(show b=n+(m+1)\/b=n+(m+1)+1\/b=n+(m+1)+2 by omega) with rfl|rfl|rfl
   ·exact{_,h2,λv z=>by cases z}
   ·exact{_,h3,λv z=>by cases z}
   ·exact{_,h1,λv z=>by cases z}
 keep:=λi h h' ⟨h1,h2,⟨us,y,h3⟩,B⟩ k=>{k _ (dI.mpr `a) _ h1,k _ (dI.mpr `a) _ h2,{us,y,k _ (dI.mpr `a) _ h3},λj b a e=>(B j b a e).at (k _ (dI.mpr (by have:=(OV.mp e).1;omega)))}
 item:=by
  intro X hP S hK hc i U s σ H E I hf {h1,h2,⟨us,y,h3⟩,B} hg;subst hP S hK;obtain⟨vs,ws,L⟩:=CV I λj b a e=>(hg j b a e).imp λ_ ⟨_,h,_⟩=>h;have it:∀k,k<m+1->∃x w b a,l[k]?=some (b,a)/\(vs k)[i]?=some x/\(ws k)[i]?=some w/\RelV x w:=λk hk=>by
   have e:l[k]?=some (l[k]'(`a)):=Pd _
   obtain⟨xs,x,J,ex⟩:=hg k _ _ e;obtain⟨q1,q2,_⟩:=L k _ _ e;rw[kg I J q1] at ex;obtain⟨w,S,r⟩:=q2.get ex;exact{x,w,_,_,e,ex,S,r}
  have R:s.TypeIs (.ref (n+(m+1)+2)) "zip":={_,h1,rfl};unfold pyNext;refine tqa (wpAny_attempt (wpAny_callSpecial?_slot R F.slot_zip_next
   (wpAny_call_entry F.slot_zip_next R F.entry_zip_next
    (r9 (I.ok.hd hc) hl O h1 h2 h3 y B (λj b a e=>{hn j b a e,(L j b a e).2.2}) (λh4 us y J z1 z2 g hTT hk=>tqb {_,rfl,?_}) λh' e k hk en _ _=>?_) (F.args_zip_next_1 _))))
  ·have zlt:n+(m+1)+2<s.heap.objs.size:=Pe h1;refine wpAny_letOwnedTupleGo_zip z1 λh5 hz5 hs5=>?_;have Y:∀(c:Nat) o,c≠n+(m+1)+2->h4.get? c=some o->h5.get? c=some o:=λc o=>hs5.extBut c o;obtain⟨ys,vy,ty⟩:=CC (us:=us.toList) λk w e=>by
    have hk:k<m+1:=by have:=(OV.mp e).1;rw[QY] at this;omega
    obtain⟨x,w',_,_,_,ex,ew,r⟩:=it k hk;have q:=J k hk;rw[Array.getElem?_toList] at e;simp only[List.getElem?_toArray] at q;rw[e,ew] at q;cases q;exact⟨x,r,ex⟩
   have ly:ys.length=m+1:=by rw[vy.length,QY,y]
   refine{.ref s.heap.objs.size,upd H s.heap.objs.size (.tup ys),qx (s:=s) I hf (λ(b:Nat) o u q=>Y b o (λz=>u (dI.mpr `a)) (hk b o (by rw[dI] at u;omega) q)) (OZ _) {by rw[ly];exact Pa (show m+1<=64 by omega) `d,us.toList,vy,{_,Y _ _ (PX zlt) hTT,rfl,_,rfl}},rfl,
    {_,ys,I.hok.fresh (OZ _),rfl,rfl,ly.trans hl.symm,λj b a e xs J=>?_},{hz5,Y _ _ `a (hk _ _ `a h2),{us,y,Y _ _ `a z2},λj b a e=>(g j b a e).at λo=>Y _ o (by have:=(OV.mp e).1;omega)},λ(b:Nat) u=>?_}
   ·have hj:j<ys.length:=by have:=(OV.mp e).1;omega
    have e1:=Pd hj;rw[kg I J (L j b a e).1,ty j _ e1,e1]
   ·rw[dI] at u;rw[ao (Pu (by omega:(b:Nat)<s.heap.objs.size))];exact(hf b (dI.mpr u)).1
  ·obtain⟨_,_,_,_,_,_,ew,_⟩:=it k hk;simp only[List.getElem?_toArray] at en;rw[ew] at en;cases en
 done:=by
  intro X hP S hK hc i U s σ H E I hf {h1,h2,⟨us,y,h3⟩,B} ⟨hs,k,b,a,xs,ek,hq,le⟩;subst hP S hK;obtain⟨vs,ws,L⟩:=CV I hs;have R:s.TypeIs (.ref (n+(m+1)+2)) "zip":={_,h1,rfl};unfold pyNext;refine tqa (wpAny_attempt (wpAny_callSpecial?_slot R F.slot_zip_next
   (wpAny_call_entry F.slot_zip_next R F.entry_zip_next
    (r9 (I.ok.hd hc) hl O h1 h2 h3 y B (λj b a e=>{hn j b a e,(L j b a e).2.2}) (λh4 us y J _ _ _ _ _=>?_) λh' e k _ _ hk he=>?_) (F.args_zip_next_1 _))))
  ·exfalso;have hk:=(OV.mp ek).1;have q:=J k `a
   obtain⟨q1,q2,_⟩:=L k b a ek;rw[Array.getElem?_eq_getElem `a] at q
   simp only[List.getElem?_toArray] at q;rw[List.getElem?_eq_none (by rw[<- q2.length,kg I q1 hq];exact le)] at q
   cases q
  ·obtain⟨o,ho,hcl⟩:=he;refine tqa (wpAny_isInstance ⟨o,ho,hcl⟩ isSubtype_stop ?_);exact tqb {rfl,uW I hf λ(b:Nat) o u q=>hk b o (by rw[dI] at u;omega) q}
 self:=λ_ _ _ _ _ st h=>wpAny_pyIter_zip st.1 h
def gK (h:Heap):je->Heap
 |[]=>h
 |p::r=>gK (h.push (c7 p.1 p.2)) r
def rO (h:Heap):je->List OX
 |[]=>[]
 |p::r=>.ref h.objs.size::rO (h.push (c7 p.1 p.2)) r
def oq:∀{h:Heap}{l:je},(gK h l).objs.size=h.objs.size+l.length
 |_,[]=>rfl
 |h,p::r=>by show(gK _ r).objs.size=_;rw[oq,Qt,PD];omega
def lE:∀{l:je}{h:Heap}{c:Nat}{o:Obj},h.get? c=some o->(gK h l).get? c=some o
 |[],_,_,_,e=>e
 |_::r,_,_,_,e=>lE (l:=r) (OW _ e)
def qJ:∀{l:je}{h:Heap}{j:Nat}{p:Bool×Nat},l[j]?=some p->(gK h l).get? (h.objs.size+j)=some (c7 p.1 p.2)
 |_::r,h,0,_,e=>by cases e;exact lE (l:=r) (Ph _ rfl)
 | q :: r, h, j + 1, _, e => by
   have:=qJ (h:=h.push (c7 q.1 q.2)) (j:=j) e;rw[Qt,QW,Nat.add_comm 1] at this;exact this
def sT:∀{l:je}{h:Heap}{n k:Nat},h.objs.size=n+k->rO h l=pM n k l.length
 |[],_,_,_,_=>rfl
 | p :: r, h, n, k, e => by
   have:=sT (l:=r) (h:=h.push (c7 p.1 p.2)) (k:=k+1) (by rw[Qt,e];rfl)
   show Value.ref h.objs.size::rO _ r=Value.ref (n+k)::pM n (k+1) r.length;rw[this,e]
abbrev Cq (h:Heap)(l:je):Heap:=(gK h l).push (iO (rO h l).toArray)
abbrev xN (h:Heap)(l:je):Heap:=(Cq h l).push (iO (l.map λ_=>Value.none).toArray)
abbrev sd (h:Heap)(l:je):Heap:=(xN h l).push {cls:=.type "zip",data:=.fields #[.none,.bool false,.bool false,.ref (gK h l).objs.size,.ref (Cq h l).objs.size]}
def Ea (h:Heap){l:je}{m:Nat}(hl:l.length=m+1):(xN h l).objs.size=h.objs.size+(m+1)+2/\xC h.objs.size m l 0 (sd h l)/\∀c o,h.get? c=some o->(sd h l).get? c=some o:=by
 have u:(gK h l).objs.size=h.objs.size+(m+1):=by rw[oq,hl]
 have s1:(Cq h l).objs.size=h.objs.size+(m+1)+1:=by rw[Qt,u]
 have s2:(xN h l).objs.size=h.objs.size+(m+1)+2:=by rw[Qt,s1]
 have B:∀{c:Nat}{o},(gK h l).get? c=some o->(sd h l).get? c=some o:=λe=>OW _ (OW _ (OW _ e));have v:(sd h l).get? (gK h l).objs.size=some _:=OW _ (OW _ (Ph _ rfl));have y:(sd h l).get? (Cq h l).objs.size=some _:=OW _ (Ph _ rfl);have z:(sd h l).get? (xN h l).objs.size=some _:=Ph _ rfl;rw[u,sT (Nat.add_zero _).symm,hl] at v;rw[s1] at y;rw[s2,s1,u] at z;exact{s2,{z,v,{_,by simp[hl],y},λj b a e=>dU.new (B (qJ e))},λc o e=>B (lE e)}
def wQ (b0:Bool)(a0:Nat)(b1:Bool)(a1:Nat)(b2:Bool)(a2:Nat)(xs0 xs1 xs2:Array OX) :
 Meets (Builtin.«zip.__new__» {[.type "zip",.ref a0,.ref a1,.ref a2],[]}) (λ_ R s=>bF b0 s.heap a0 xs0/\bF b1 s.heap a1 xs1/\bF b2 s.heap a2 xs2/\
  R (.ok (.ret (.ref (xN s.heap [(b0,a0),(b1,a1),(b2,a2)]).objs.size))) {s with heap:=sd s.heap [(b0,a0),(b1,a1),(b2,a2)]}):=
 .of_wp λprog w A R s h=>by
  obtain⟨j,g,d,tk,os⟩:=s;obtain⟨B,F,H,h⟩:=h;have u:=sub_zip;have v:=B;have y:bF b1 (Shared.heap {j.push (c7 b0 a0),g,d,tk,os}) a1 xs1:=(F).push _;have z:bF b2 (Shared.heap {(j.push (c7 b0 a0)).push (c7 b1 a1),g,d,tk,os}) a2 xs2:=((H).push _).push _;wp_walk using km v,km y,km z
  exact{_,rfl,h}
def pF (a b c:OX):checkTypeCall "zip" {[a,b,c],[]}=pure ():=by kernel_rfl
def rG (a b c:OX):checkBuiltinCall "zip.__new__" {[.type "zip",a,b,c],[]}=pure ():=by kernel_rfl
def mf (a b c d:OX):argsOk "object.__init__" {[a,b,c,d],[]}:=by
 unfold argsOk;rw[signature?_of (n:=['_','_','t','i','n','i','_','_']) (by kernel_rfl) F.owner_object];kernel_rfl
section
variable{prog:PH}{w:PC}{A:Qx}{E:OX->O0->Prop}{s:O0}{a0 a1 a2:Nat}{b0 b1 b2:Bool}{xs0 xs1 xs2:Array OX}{Q:OX->O0->Prop}
def Ab (u:bF b0 s.heap a0 xs0)(v:bF b1 s.heap a1 xs1)(B:bF b2 s.heap a2 xs2)(h:∀j,xC s.heap.objs.size 2 [(b0,a0),(b1,a1),(b2,a2)] 0 j->(∀c o,s.heap.get? c=some o->j.get? c=some o)->Q (.ref (s.heap.objs.size+3+2)) {s with heap:=j}) :
 wpAny (model prog w) A (call (.type "zip") [.ref a0,.ref a1,.ref a2]) Q E s:=by
 obtain⟨z,y,x⟩:=Ea s.heap (l:=[(b0,a0),(b1,a1),(b2,a2)]) rfl;refine callType_new F.called_zip `d (pF _ _ _) (rG _ _ _) (λobj=>mf obj _ _ _) F.entry_zip_new (wQ b0 a0 b1 a1 b2 a2 xs0 xs1 xs2) {u,v,B,?_}
 show _/\_;rw[z];exact{{_,y.1,rfl},h _ y x}
end
def n8 (d0 d1 d2:D):Walk:=λM=>(bR M d0).bind λh=>(bR M d1).bind λj=>(bR M d2).map λu=>eV h j u
def mI (j u v:Env->Mem->Res D):Env->Mem->Res Walk:=λh M=>(j h M).bind λd0 M=>(u h M).bind λd1 M=>(v h M).bind λd2 M=>if dG d0&&dG d1&&dG d2 then .ok (n8 d0 d1 d2) M else .bad
def qt:∀(j u v:List D) (i:Nat) (d:D),(eV j u v)[i]?=some d↔∃h e1 e2,j[i]?=some h/\u[i]?=some e1/\v[i]?=some e2/\d=.tup [h,e1,e2]
 |y::t0,z::t1,B::t2,0,d=>by simp[eV,eq_comm]
 | y :: t0, z :: t1, B :: t2, i + 1, d => by
   have:=qt t0 t1 t2 i d;simpa[eV] using this
 |[],_,_,i,d=>by simp[eV]
 |_::_,[],_,i,d=>by simp[eV]
 |_::_,_::_,[],i,d=>by simp[eV]
def qs:∀(j u v:List D) (i:Nat),(eV j u v).length<=i->j.length<=i\/u.length<=i\/v.length<=i
 |y::t0,z::t1,B::t2,0,h=>by simp[eV] at h
 | y :: t0, z :: t1, B :: t2, i + 1, h => by
   have:=qs t0 t1 t2 i (by simpa[eV] using h)
   simpa using this
 |[],_,_,i,h=>`s
 |_::_,[],_,i,h=>`s
 |_::_,_::_,[],i,h=>`s
def CY {fa:Fa}{K:OU}{μ:Mu}{H:Hp}:∀{es:List D}{ws:List V},es.length=ws.length->(∀(j:Nat) e w,es[j]?=some e->ws[j]?=some w->Rep fa K μ H e w)->aB fa K μ H es ws
 |[],[],_,_=>rfl
 |e::es,w::ws,hl,h=>{w,ws,rfl,h 0 e w rfl rfl,CY (by simpa using hl) λj e w=>h (j+1) e w}
def Aw {fa:Fa}{X:Cx}{μ0:Mu}{H0:Hp}{l:je}{w:Walk} (Y:∀μ H M ds,ExtW μ0 H0 μ H->RelM fa X.K μ H M->w M=some ds->∃ys:List (List D),ys.length=l.length/\(∀(j:Nat) y b a,ys[j]?=some y->l[j]?=some (b,a)->∃vs,hI X.K H b a vs/\aB fa X.K μ H y vs)/\
 (∀(i:Nat) d,ds[i]?=some d->∃es,d=.tup es/\es.map some=ys.map (·[i]?))/\∀i,ds.length<=i->∃y∈ys,y.length<=i):dQ fa X.K μ0 H0 w (Kw X.K l):=λμ H M ds x L e=>by
 obtain⟨ys,hl,B,hd,he⟩:=Y μ H M ds x L e;have at_:∀(j:Nat) b a,l[j]?=some (b,a)->∃y vs,ys[j]?=some y/\hI X.K H b a vs/\aB fa X.K μ H y vs:=λj b a e=>by
  have hj:=(OV.mp e).1;have u:=Pd (l:=ys) (i:=j) `a
  obtain⟨vs,q,r⟩:=B j _ b a u e;exact{_,vs,u,q,r}
 refine{λi d O=>?_,λi O=>{λj b a e=>?_,?_}}
 ·obtain⟨es,rfl,F⟩:=hd i d O;have J:∀{j:Nat}{y:List D},ys[j]?=some y->es[j]?.map some=some y[i]?:=λ{j y} u=>by
   have:=congrArg (·[j]?) F;simpa[u] using this
  have le:es.length=l.length:=by have:=congrArg List.length F;simpa[hl] using this
  have S:∀(j:Nat) b a,l[j]?=some (b,a)->∃vs e v,es[j]?=some e/\hI X.K H b a vs/\vs[i]?=some v/\Rep fa X.K μ H e v:=λj b a e=>by
   obtain⟨y,vs,u,q,r⟩:=at_ j b a e;have z:=J u;cases h:es[j]? with
   |none=>rw[h] at z;cases z
   | some e =>
     rw[h] at z;obtain⟨v,B,R⟩:=r.get (O2 z).symm;exact⟨vs,e,v,rfl,q,B,R⟩
  refine{λj b a e=>?_,λy H' ⟨p,zs,P,u,U,lz,t⟩=>?_}
  ·obtain⟨vs,_,v,_,q,B,_⟩:=S j b a e;exact⟨vs,v,q,B⟩
  subst U u;refine{Ext.alloc L P,L.alloc P,p,zs,rfl,.inl (.inl bH),CY (le.trans lz.symm) λj e w F W=>?_};have I:=Pd (l:=l) (i:=j) (by have:=(OV.mp F).1;omega)
  obtain⟨vs,e',v,h1,q,B,R⟩:=S j _ _ I;have z:=t j _ _ I vs q;rw[W,B] at z;rw[F] at h1;cases z;cases h1;exact R.ext (Ext.alloc L P)
 ·obtain⟨_,vs,_,q,_⟩:=at_ j b a e;exact⟨vs,q⟩
 ·obtain⟨y,hy,ly⟩:=he i O;obtain⟨j,J⟩:=List.getElem?_of_mem hy;have I:=Pd (l:=l) (i:=j) (by have:=(OV.mp J).1;omega)
  obtain⟨vs,q,r⟩:=B j y _ _ J I;exact{j,_,_,vs,I,q,by rw[r.length];exact ly}
section
variable{fa:Fa}{X:Cx}{μ0:Mu}{H0:Hp}{d0 d1 d2:D}{a0 a1 a2:Nat}(r0:Rep fa X.K μ0 H0 d0 (.ref a0))(r1:Rep fa X.K μ0 H0 d1 (.ref a1))(r2:Rep fa X.K μ0 H0 d2 (.ref a2))
include r0 r1
include r2
theorem xW:dQ fa X.K μ0 H0 (n8 d0 d1 d2) (Kw X.K [(dY d0,a0),(dY d1,a1),(dY d2,a2)]):=Aw λS H M P x v e=>by
 obtain⟨B,O,e⟩:=PB.mp e;obtain⟨F,s1,e⟩:=PB.mp e;obtain⟨I,s2,rfl⟩:=O8.mp e;refine{[B,F,I],rfl,λj y b a u h=>?_,λi d hd=>?_,λi L=>?_}
 ·match j,u,h with
  |0,u,h=>cases u;cases h;exact iR v (Rep.extW x r0) O
  |1,u,h=>cases u;cases h;exact iR v (Rep.extW x r1) s1
  |2,u,h=>cases u;cases h;exact iR v (Rep.extW x r2) s2
 ·obtain⟨R,e1,e2,J,h1,h2,rfl⟩:=(qt B F I i d).mp hd;exact{_,rfl,by simp[J,h1,h2]}
 ·rcases qs B F I i L with z|z|z<;>exact{_,`s,z}
end
set_option tactic.hygienic true in
def Gg {fa:Fa}{X:Cx}{F:List Expr}{kk:Nat}{tp p pos:Pos}{e0 e1 e2:Expr}{g0 g1 g2:Env->Mem->Res D}(h0:DE fa X e0 g0)(h1:DE fa X e1 g1)(h2:DE fa X e2 g2)(hg:Gl X "zip")(hm:X.mg "zip"=none)
 (J:starEach [e0,e1,e2] X.env=[(false,eval e0 X.env),(false,eval e1 X.env),(false,eval e2 X.env)]) (y:starEach [e1,e2] X.env=[(false,eval e1 X.env),(false,eval e2 X.env)]) (L:starEach [e2] X.env=[(false,eval e2 X.env)]):DI fa X (.Tuple F kk tp) (.Call (.Name "zip" p) [e0,e1,e2] [] pos) (mI g0 g1 g2):=by
 intro P s σ H R I ⟨μ,Z,M,hE,hM,h⟩;obtain⟨d0,M0,c0,t0⟩:=ax h;obtain⟨d1,M1,c1,t1⟩:=ax t0;obtain⟨d2,M2,c2,t2⟩:=ax t1;split at t2
 ·next O=>
  simp only[O3,and_assoc] at O;obtain⟨hq0,hq1,hq2⟩:=O;refine Call_ (fX I hg hm boot_zip (Qw (aI (cU h0 (cU h1 (cU h2 eB L) (by rw[y,L])) (by rw[J,y]) pos P s σ H (λvs v=>∃Y v1 v2 u,vs=[Y,v1,v2]/\Ext μ H u v/\RelM fa X.K u v M2/\Rep fa X.K u v d0 Y/\Rep fa X.K u v d1 v1/\Rep fa X.K u v d2 v2) I ?_) λus s1 ⟨vs,v,z,r1,Y,v1,v2,u,ev,x1,B,S,U,W⟩=>?_) (by rw[J,y]) (by rw[y];rfl)))
  ·refine{μ,Z,M,hE,hM,?_};rw[c0];intro Y v u x1 B r0;refine{u,Z,M0,(hE.ext x1),B,?_};rw[c1];intro v1 H2 μ2 x2 m2 r1;refine{μ2,Z,M1,((hE.ext x1).ext x2),m2,?_};rw[c2];intro v2 H3 μ3 x3 m3 r2;exact{Y,v1,v2,μ3,rfl,((x1.trans x2).trans x3),m3,((r0.ext x2).ext x3),(r1.ext x3),r2}
  subst ev;obtain⟨a0,its0,rfl,z0⟩:=iS z B S hq0;obtain⟨a1,its1,rfl,z1⟩:=iS z B U hq1;obtain⟨a2,its2,rfl,z2⟩:=iS z B W hq2;cases r1 with
  | cons y0 r1 =>
    cases r1 with
    | cons y1 r1 =>
      cases r1 with
      | cons y2 r1 =>
        cases r1;obtain rfl:=y0;obtain rfl:=y1;obtain rfl:=y2;refine Ab z0 z1 z2 λh1 za hk=>?_;have I2:=z.kept (t':=s1.toks) hk;refine wpAny_pyIter_zip za.1 ?_;refine{s1.heap.objs.size+3+2,GJ s1.heap.objs.size 2,_,_,v,rfl,I2,AO s1.heap.objs.size 2 [(dY d0,a0),(dY d1,a1),(dY d2,a2)] rfl `d (λj b a e=>match j,e with
         |0,e=>by cases e;exact z0.lt
         |1,e=>by cases e;exact z1.lt
         |2,e=>by cases e;exact z2.lt),za,λb hb=>?_,t2 _ v u x1 B (xW S U W)}
        have hb:=(dI.mp hb).1;exact z.fpOk hb (z.hok.fresh hb)
 ·exact t2.elim
noncomputable def xn (h:Addr):Obj:={cls:=.type "enumerate",data:=.fields #[.none,.bool false,.ref h,rawInt 0,.none,.none]}
set_option tactic.hygienic true in
def zr (l:Addr)(us:Array OX)(n:Nat)(dct:Option Addr)(sl:Array (Option OX)) :
 Meets (Builtin.«enumerate.__new__» {[.type "enumerate",.ref l],[]}) (λ_ R s=>s.heap.get? l=some {.type "tuple",dct,.seq us n,sl}/\
  R (.ok (.ret (.ref (s.heap.push (c7 false l)).objs.size))) {s with heap:=(s.heap.push (c7 false l)).push (xn s.heap.objs.size)}):=
 .of_wp λprog w A R s h=>by
  obtain⟨v,g,d,tk,os⟩:=s;obtain⟨j,h⟩:=h;have q:=sub_enumerate;have u:Heap.IsTuple (Shared.heap ⟨v,g,d,tk,os⟩) l us:={_,j,rfl,n,rfl};wp_walk using QI j
  refine wpAny_stack_any λ_=>tqb ?_;split
  ·rename_i c _ _ _ _ _;cases (c==Value.type "enumerate")<;>
   ·wp_walk using QI j,wpAny_pyIter_tuple u
    exact{_,rfl,h}
  ·wp_walk using QI j,wpAny_pyIter_tuple u
   exact{_,rfl,h}
section
variable{prog:PH}{w:PC}{A:Qx}{E:OX->O0->Prop}{s:O0}
def Cc (u:bF b s.heap l us)
 (h:∀j,IsEnum j (s.heap.objs.size+1) s.heap.objs.size 0 .none->dU b j s.heap.objs.size l 0->(∀c o,s.heap.get? c=some o->j.get? c=some o)->Q (.ref (s.heap.objs.size+1)) {s with heap:=j}):wpAny (model prog w) A (call (.type "enumerate") [.ref l]) Q E s:=by
 cases b with
 |true=>exact call_enumerate_list u λj e i _ k=>h j e i k
 | false =>
   obtain⟨⟨c,dct,B,sl⟩,z,y,n,hd⟩:=u;cases y;cases hd;refine callType_new F.called_enumerate `d (F.typeCall_enumerate_1 _) (F.newCall_enumerate_1 _) (λo=>F.args_object_init_2 o _) F.entry_enumerate_new (zr l us n dct sl) {z,?_}
   have v:(s.heap.push (c7 false l)).objs.size=s.heap.objs.size+1:=Qt ..;rw[v];have he:IsEnum ((s.heap.push (c7 false l)).push (xn s.heap.objs.size)) (s.heap.objs.size+1) s.heap.objs.size 0 .none:=by
    have:=Ph (s.heap.push (c7 false l)) (o:=xn s.heap.objs.size) rfl;rw[v] at this;exact this
   exact{{_,he,rfl},h _ he (dU.new (OW _ (Ph _ rfl))) λc o x=>OW _ (OW _ x)}
def JX (hh:A.handled=none)(y:l≠it)(us:Array OX):Draws prog w A it [it,l] us.size (λi v=>us[i]?=some v) (λi h=>dU b h it l i/\bF b h l us) where
 live:=λ_ _ st=>let{o,ho,_}:=st.1.obj;⟨o,ho⟩
 frame:=λ_ _ _ st hk=>{st.1.at λo e=>hk it `s o e,st.2.at λo e=>hk l `s o e}
 item:=λi s Q E J st I=>ij hh st.1 st.2 (λx F u B j=>I _ F s.toks u {B,st.2.extBut j.extBut y} j) λz=>by rw[Array.getElem?_eq_getElem J] at z;cases z
 done:=λs Q E st H=>ij hh st.1 st.2 (λx F u=>by rw[Array.getElem?_eq_none (OZ _)] at u;cases u) λ_=>H
def JW (hh:A.handled=none)(v:us[i]?=none):Draws prog w A it [it,l] i (λ_ _=>True) (λk h=>k=i/\dU b h it l i/\bF b h l us) where
 live:=λ_ _ st=>let{o,ho,_}:=st.2.1.obj;⟨o,ho⟩
 frame:=λ_ _ _ st hk=>{st.1,st.2.1.at λo e=>hk it `s o e,st.2.2.at λo e=>hk l `s o e}
 item:=λk s Q E u st z=>absurd st.1 (Pu u)
 done:=λs Q E st j=>ij hh st.2.1 st.2.2 (λx y e=>by rw[v] at e;cases e) λ_=>j
def LR {P:Nat->OX->Prop}{St:Nat->Heap->Prop}(D:Draws prog w A it fp n P St)(k:Nat):Draws prog w A it fp (k+n) (λj=>P (j-k)) (λj h=>k<=j/\St (j-k) h) where
 live:=λ_ _ st=>D.live _ _ st.2
 frame:=λ_ _ _ st hk=>{st.1,D.frame _ _ _ st.2 hk}
 item:=λj s Q E B st y=>D.item (j-k) s Q E (by have:=st.1;omega) st.2 λx u tk z hs=>y x u tk z {Nat.le_succ_of_le st.1,by rw[Nat.succ_sub st.1];exact hs}
 done:=λs Q E st v=>D.done s Q E (by have:=st.2;rwa [Pz] at this) v
end
noncomputable def Nc (K:OU)(b:Bool)(a:Addr)(k:Nat):It:=
 {λi H=>∃xs x,hI K H b a xs/\xs[i]?=some x,λi H v h=>∃p x,H p=none/\v=.ref p/\h=upd H p (.tup [.int (k+i:Nat),x])/\∀xs,hI K H b a xs->xs[i]?=some x,λi H=>∃xs,hI K H b a xs/\xs.length<=i}
def qy {K:OU}(b:Bool)(a L e:Addr)(k:Nat)(M:e≠L)(hna:a≠L)(hea:e≠a) :
 Turn P w K (.Tuple elts kk pos) (Nc K b a k) [e,L] e (λi h=>(∃old,IsEnum h e L (k+i:Nat) old)/\dU b h L a i) where
 mem:=`s
 obj:=λi h ⟨⟨old,he⟩,hi⟩ c B=>by
  rcases PJ.mp B with z|z
  ·subst z;exact{_,he,λv z=>by cases z}
  ·have e:c=L:=by simpa using z
   subst e;exact hi.obj
 keep:=λi h h' ⟨⟨old,he⟩,st⟩ q=>{{old,q e `s _ he},st.at λo e=>q L `s o e}
 item:=by
  intro X hP hw hK hc i S s σ H E I hf st hg;subst hP hw hK;obtain⟨xs,x,Y,hx⟩:=hg;obtain⟨⟨old,he⟩,F⟩:=st;obtain⟨J,rv,p⟩:=mv I Y;obtain⟨u,hu,ru⟩:=rv.get hx;have hi:i<J.toArray.size:=by have:=(OV.mp hu).1;simpa using this
  have R:k+i-k=i:=Pz k i;refine wpAny_pyNext_enum_itemD (LR (JX (A:=X.A.in1) (I.ok.hd hc) hna J.toArray) k) he {Qg k i,by rw[R];exact⟨F,p⟩} (Nat.add_lt_add_left hi k) M (by simp[M,hea]) λU h1 tk y ho j hT hsz hk=>{_,rfl,?_}
  rw[R] at y;replace j:=j.2;rw[show k+i+1-k=i+1 from Pz k (i+1)] at j;have eu:U=u:=by
   have y:J[i]?=some U:=by simpa using y
   rw[hu] at y;exact(O2 y).symm
  subst eu;have hT0:=I.hok.fresh (OZ _);have Q:=Pe he;refine wpAny_letOwnedTupleGo_enum ho λh2 he2 O=>?_;have hT2:h2.get? s.heap.objs.size=some {cls:=.type "tuple",data:=.seq #[.int (k+i:Nat) tk,U]}:=(O.2 _ (PX Q)).trans hT;refine{.ref s.heap.objs.size,upd H s.heap.objs.size (.tup [.int (k+i:Nat),x]),qx (s:=s) I hf (λc o B q=>(O.2 c (λz=>B (by simp[z]))).trans (hk c o (λz=>B (by simp[z])) (λz=>B (by simp[z])) q)) (OZ _) {?_,[.int (k+i:Nat) tk,U],.cons {_,rfl} (.cons ru .nil),{_,hT2,rfl,_,rfl}},rfl,
   {_,x,hT0,rfl,rfl,λys hy=>by rw[kg I hy Y];exact hx},{⟨U,he2⟩,j.1.extBut O.extBut (Qk M)},λc B=>?_}
  ·show 2<=sizeLine;decide
  ·have:c<s.heap.objs.size:=by
    rcases PJ.mp B with z|z
    ·subst z;exact Q
    ·have e:c=L:=by simpa using z
     subst e;obtain⟨o,e,_⟩:=F.obj;exact Pe e
   rw[ao (Pu this)];exact(hf c B).1
 done:=by
  intro X hP hw hK hc i S s σ H E I hf st hg;subst hP hw hK;obtain⟨xs,Y,hx⟩:=hg;obtain⟨⟨old,he⟩,F⟩:=st;obtain⟨J,rv,p⟩:=mv I Y;have hl:=rv.length;exact wpAny_pyNext_enum_endD (JW (A:=X.A.in1) (I.ok.hd hc) `o) he ⟨rfl,F,p⟩ λh' eb=>{rfl,uW I hf λc o B q=>eb c o (λz=>B (by simp[z])) q}
 self:=λ_ _ _ _ _ ⟨⟨old,he⟩,_⟩ h=>wpAny_pyIter_enum he h
section
variable{fa:Fa}{X:Cx}{a:Expr}{ga:Env->Mem->Res D}{pos p:Pos}
def qv {ad:Addr}{k:Nat}(h:Rep fa X.K μ0 H0 dd (.ref ad)):dQ fa X.K μ0 H0 (λM=>(bR M dd).map (dN k)) (Nc X.K (dY dd) ad k):=λY H M W x j e=>by
 dsimp only at e;cases u:bR M dd with
 |none=>rw[u] at e;cases e
 | some I =>
   rw[u] at e;have e:=O2 e;subst e;obtain⟨F,s,r⟩:=iR j (Rep.extW x h) u;refine{λi d hd=>?_,λi P=>{F,s,by rw[r.length,<- i1 I k];exact P}}
   rw[g5] at hd;cases e1:I[i]? with
   |none=>rw[e1] at hd;cases hd
   | some U =>
     rw[e1] at hd;have hd:=O2 hd;subst hd;obtain⟨v,J,R⟩:=r.get e1;refine{⟨F,v,s,J⟩,λy S ⟨q,z,B,O,L,Q⟩=>?_};have:=Q F s;rw[J] at this;cases this;subst L O;refine{Ext.alloc j B,j.alloc B,q,[.int (k+i:Nat),v],rfl,.inl (.inl bH),.int (k+i:Nat),[v],rfl,rfl,v,[],rfl,R.ext (Ext.alloc j B),rfl}
def ir (ga:Env->Mem->Res D):Env->Mem->Res Walk:=λh M=>(ga h M).bind λx M=>if dG x=true then .ok (λM=>(bR M x).map (dN 0)) M else .bad
def Gi {B:List Expr}(ha:DE fa X a ga)(hg:Gl X "enumerate")(hm:X.mg "enumerate"=none)(hs:starEach [a] X.env=[(false,eval a X.env)]):DI fa X (.Tuple B kk tp) (.Call (.Name "enumerate" p) [a] [] pos) (ir ga):=by
 intro F s σ H R I ⟨Y,Z,M,hE,hM,h⟩;obtain⟨x,M1,e,q⟩:=ax h;cases Q:dG x with
 |false=>rw[Q] at q;exact q.elim
 |true=>
 rw[Q] at q;refine Call_ (fX I hg hm boot_enumerate (Qw (aI (cU ha eB hs pos F s σ H (λW u=>∃v j,W=[v]/\Ext Y H j u/\RelM fa X.K j u M1/\Rep fa X.K j u x v) I {Y,Z,M,hE,hM,?_}) λus s1 ⟨W,u,J,r1,v,j,ev,S,O,U⟩=>?_) hs rfl))
 ·rw[e];exact λv u j S O r1=>⟨v,j,rfl,S,O,r1⟩
 subst ev;obtain⟨ad,its,rfl,p1⟩:=iS J O U Q;cases r1 with
 | cons r1 rr =>
   cases rr;obtain rfl:=r1;have y:=p1.lt;refine Cc p1 λh1 he P hk=>?_;have I2:=J.kept (t':=s1.toks) hk;refine wpAny_pyIter_enum he ?_;refine{s1.heap.objs.size+1,[s1.heap.objs.size+1,s1.heap.objs.size],_,_,u,rfl,I2,qy (dY x) ad s1.heap.objs.size (s1.heap.objs.size+1) 0 (Nat.succ_ne_self _) (Pu y) (PX (Ra y)),{{.none,he},P},λb L=>?_,q _ u j S O (qv U)};have L:s1.heap.objs.size<=b:=by
    rcases PJ.mp L with z|z
    ·subst z;exact Rk _
    ·have e:b=s1.heap.objs.size:=by simpa using z
     subst e;exact OZ _
   exact J.fpOk L (J.hok.fresh L)
end
abbrev GE:=Env->Mem->Res D
abbrev GT:=Env->Mem->Res Bool
abbrev GA:=Env->Mem->Res (List D)
abbrev GW:=Env->Mem->Res Walk
abbrev GS:=Env->Mem->Res Fl
abbrev GB:=Env->List D->Mem->Res (List D)
abbrev Call:=Nat->List D->Mem->Res D
def aa (i:Nat):GE:=λh M=>bL M (h[i]?.getD none)
noncomputable def gC (d:D):GE:=λ_ M=>.ok d M
def ai (m:Bool)(o:rB)(a b:GE):GE:=λh M=>(a h M).bind λx M=>(b h M).bind λy M=>gg m o x y M
def aH (o:jC)(a b:GE):GE:=λh M=>(a h M).bind λx M=>(b h M).bind λy M=>(bL M (bB o x y M)).bind λb M=>.ok (.bl b) M
def tZ (o j:jC)(a b c:GE):GE:=λh M=>(a h M).bind λx M=>(b h M).bind λy M=>(bL M (bB o x y M)).bind λk M=>
 if k then(c h M).bind λz M=>(bL M (bB j y z M)).bind λb M=>.ok (.bl b) M else .ok (.bl false) M
def fh (a:GE):GE:=λh M=>(a h M).bind λx M=>match x with|.int i=>.ok (.int (-i)) M|_=>.bad
def fE (a b:GE):GE:=λh M=>(a h M).bind λx M=>match x with|.bl true=>b h M|.bl false=>.ok (.bl false) M|_=>.bad
def MZ (a b:GE):GE:=λh M=>(a h M).bind λx M=>match x with|.bl true=>.ok (.bl true) M|.bl false=>b h M|_=>.bad
def Oe (a:GE):GE:=λh M=>(a h M).bind λx M=>match x with|.bl k=>.ok (.bl (!k)) M|_=>.bad
def fZ (t:GT)(a b:GE):GE:=λh M=>(t h M).bind λk M=>if k then a h M else b h M
def aS (a b:GE):GE:=λh M=>(a h M).bind λx M=>(b h M).bind λy M=>bL M (da x y M)
def bN (m hl hh:Bool)(a lo hi:GE):GE:=λj M=>(a j M).bind λx M=>(lo j M).bind λl M=>(hi j M).bind λh M=>if d4 hl l&&d4 hh h then cQ m x l h M else .bad
noncomputable def bx:GA:=λ_ M=>.ok [] M
def b7 (a:GE)(s:GA):GA:=λh M=>(a h M).bind λx M=>(s h M).bind λxs M=>.ok (x::xs) M
def bu (s:GA):GE:=λh M=>(s h M).bind kv
def bt (m:Bool)(s:GA):GE:=λh M=>(s h M).bind (a7 m)
def ah (f:Nat)(c:Call)(s:GA):GE:=λj M=>(s j M).bind λh M=>c f h M
def lW (i:Nat)(c:Call)(s:GA):GE:=λh M=>match h[i]?.getD none with|some (.fn f)=>(s h M).bind λj M=>c f j M|_=>.bad
def aA (f:wh)(s:GA):GE:=λj M=>(s j M).bind λh M=>ee f h M
def f5 (t:Ty)(a:GE):GE:=λh M=>(a h M).bind λx M=>(bL M (fY t x)).bind λb M=>.ok (.bl b) M
def aq (a:GE):GT:=λh M=>(a h M).bind λx M=>bL M (jE M x)
def d8 (a b:GT):GT:=λh M=>(a h M).bind λk M=>if k then b h M else .ok false M
def ff (a b:GT):GT:=λh M=>(a h M).bind λk M=>if k then .ok true M else b h M
def b3 (a:GT):GT:=λh M=>(a h M).bind λk M=>.ok (!k) M
def aw (t:fg)(a:GE):GS:=λj M=>(a j M).bind λx M=>(bL M (bV t x j)).bind λh M=>.ok (.next h) M
def fA (a b d:GE):GS:=λh M=>(d h M).bind λz M=>(a h M).bind λx M=>(b h M).bind λy M=>match x,y with
 | .cell k, .int n => match M[k]? with
   | some u => match b6 u.length n with
     |some j=>.ok (.next h) (M.set k (u.set j z))
     |none=>.bad
   |none=>.bad
 |_,_=>.bad
def fC (a d:GE):GS:=λh M=>(a h M).bind λx M=>(d h M).bind λz M=>match x with
 | .cell k => match M[k]? with
   |some j=>if j.length<sz then .ok (.next h) (M.set k (j++[z])) else .bad
   |none=>.bad
 |_=>.bad
def HK (a:GE):GS:=λh M=>(a h M).bind λ_ M=>.ok (.next h) M
def aD (a:GE):GS:=λh M=>(a h M).bind λx M=>.ok (.ret x) M
noncomputable def CW:GS:=λ_ M=>.ok (.ret .non) M
def wG:GS:=λh M=>.ok (.next h) M
def wH:GS:=λ_ _=>.bad
def aL (c:GT)(a b:GS):GS:=λh M=>(c h M).bind λk M=>if k then a h M else b h M
def dz (t:fg)(w:GW)(b:GS):GS:=λh M=>(w h M).bind λw M=>c6 (fw t b) w (.next h) M
def aE:GS:=λh M=>.ok (.next h) M
noncomputable def aT (a b:GS):GS:=λh M=>(a h M).bind λfl M=>match fl with
 |.next h=>b h M
 |fl=>.ok fl M
noncomputable def notStar:Expr->Bool
 |.Starred _ _=>false
 |_=>true
def ba (h:notStar a=true):starEach (a::es) env=(false,eval a env)::starEach es env:=by
 cases a<;>first|rfl|cases h
def cP:∀{es:List Expr},es.all notStar=true->(backTo pos (starEach es env)).any (·.1)=false
 |[],_=>rfl
 | a :: es, h => by
   simp only[Qb,O3] at h;have j:=cP (pos:=pos) (env:=env) h.2;rw[ba h.1];simpa[backTo] using j
section
variable{fa:Fa}{X:Cx}{a b d:Expr}{ga gb gd:GE}{ta tb:GT}{pos p:Pos}{es:List Expr}{gs:GA}{n:Nat}
def HP {i:Int}(h:Gl X x)(hm:X.mg x=some (.int i t))(hd:(x==("__debug__":Str))=false):DE fa X (.Name x pos) (gC (.int i)):=iK (v:=.int i) (jQ h hm ⟨t,rfl⟩ hd) λ_ _=>rfl
end
structure Df where
 params:Nat
 slots:Nat
 body:Call->GS
noncomputable def Oh:Fl->Mem->Res D
 |.ret d,M=>.ok d M
 |.next _,M=>.ok .non M
 |.exc x _,M=>.err x M
def Og:Res Fl->Res D
 |.ok fl M=>Oh fl M
 |_=>.bad
def fD (c:Call)(d:Df)(ds:List D)(M:Mem):Res D:=if ds.length=d.params then Og (d.body c (ds.map some++List.replicate (d.slots-ds.length) none) M) else .bad
def ag (P:Nat->Option Df):Nat->Call
 |0,_,_,_=>.bad
 | n + 1, f, h, M => match P f with
   |none=>.bad
   |some d=>fD (ag P n) d h M
structure xK (K:OU) (x qual:Str) (st:Stmt) (f:Addr) (fd:FuncData):Prop where
 ex:∃(oc:OX) (od:Option Addr) (dV kV doc pm:OX) (an:Option Addr) (cdv ct:OX) (osl:Array (Option OX)),
  fd=PySem.W.fnOf x qual (eE st) (cV st) (aY st) dV kV doc pm an cdv ct/\K.lookup f=some {oc,od,.func fd,osl}/\PySem.W.codeIn K cdv qual=true
 kp:PySem.W.keepIn K (.ref f)=true
def we.toD {K:OU}{st:Stmt}(F:we K x qual st f fd):xK K x qual st f fd:=let⟨oc,od,kV,j,pm,v,h,ct,u,r⟩:=F.ex;{{oc,od,.none,kV,j,pm,v,h,ct,u,r},F.kp}
structure xM (fa:Fa) (P:PH) (w:PC) (K:OU) (mg:Str->Option OX) (base:Heap) (f:Nat) (d:Df):Prop where
 ex:∃(ad:Addr) (fd:FuncData) (ps N:List Str) (st:Stmt) (x qual:Str),fa f=some ad/\xK K x qual st ad fd/\Binds K fd ps []/\((fa (500+f)).isSome=true->Binds K fd ps [.none])/\iM N ps (aY st)/\d.params=ps.length/\d.slots=N.length/\
  ∀(call:Call) (n:Nat) (cdv:OX) (A:Qx) (outer:List Qu) (s:O0) (H:Hp) (E:XK),(∀f,eD fa P w K mg base n f (call f))->bK (2*n+5) (A.deeper (envOfC qual (aY st) s.heap.objs.size ad cdv))->
   j7 fa (fF (ib P w) P w K mg base N qual (aY st) ad cdv A outer s H E) (cV st) (d.body call)
def yu {K:OU}(h:aB fa K μ H ds vs):bb fa K μ H (L2.start N vs) (ds.map some++List.replicate (N.length-ds.length) none):=by
 have hl:=h.length;refine{by unfold L2.start;simp[hl],λi d e=>?_}
 by_cases j:i<ds.length
 ·rw[O4 (by simpa using j),Pt] at e
  cases e1:ds[i]? with
  |none=>rw[e1] at e;cases e
  | some z =>
    rw[e1] at e;cases e;obtain⟨v,u,y⟩:=h.get e1;refine{v,?_,y};unfold L2.start;rw[O4 `o,Pt,u]
    rfl
 ·rw[Pp `o,Q0] at e
  split at e<;>cases e
def vR {K:OU}{st:Stmt}(F:xK K x qual st f fd)(S:iM N ps (aY st))(len:∀vs H Q E,sp vs H Q E->vs.length=ps.length)
 (j:∀(h:OX) (A:Qx) (outer:List Qu) (s:O0) (H:Hp) (vs:List V) (Q:VK) (E:XK),bK k (A.deeper (envOfC qual (aY st) s.heap.objs.size f h))->sp vs H Q E->
  ∃t,j5 (fF (ib P w) P w K mg base N qual (aY st) f h A outer s H E) (cV st) t/\t {nx:=λ_ y=>Q .non y,rt:=Q} (start N vs) H):gJ P w K mg base (ib P w) (k+1) f fd ps sp:=by
 obtain⟨oc,od,dV,kV,z,pm,I,h,ct,B,rfl,lk,u⟩:=F.ex;exact LG lk u S len λA outer s H vs Q E hr v=>j h A outer s H vs Q E hr v
set_option tactic.hygienic true in
def qZ {K:OU}
 (hs:d.slots=N.length) (L:RelM fa K μ H M) (hr:aB fa K μ H ds vs) (h:dW (fD c d ds M) (aZ fa K μ H Q) (D4 fa K μ H E)):tF fa (fF (ib P w) P w K mg base N qual scope f cd A outer s H E) (d.body c) {nx:=λ_ u=>Q .non u,rt:=Q} (start N vs) H:=by
 unfold fD at h;split at h
 ·refine{μ,_,M,yu hr,L,?_};rw[<- hs];cases e1:d.body c (ds.map some++List.replicate (d.slots-ds.length) none) M with
  | ok fl U =>
    rw[e1] at h;cases fl with
    | next z =>
      have v:=h;exact λB u j S Y R=>v .non u j S R rfl
    |ret d=>exact h
    | exc x z =>
      have v:=h;exact λF B u j s' a C J c p I y _ m ex O hn fl=>BF I fl (v C J c p u j y m ex O hn)
  |err=>rw[e1] at h;exact h.elim
  |bad=>rw[e1] at h;exact h.elim
 ·exact h.elim
def uw {P:PH}{w:PC}{K:OU}(h:∀f d,Pg f=some d->xM fa P w K mg base f d):∀(n f:Nat),eD fa P w K mg base n f (ag Pg n f)
 |0,f=>.inl λ_ _=>rfl
 | n + 1, f => by
   have U:=uw h n;cases e:Pg f with
   |none=>exact .inl λj M=>by show(match Pg f with|none=>Res.bad|some d=>fD (ag Pg n) d j M)=Res.bad;rw[e]
   | some d =>
     have eq:∀j M,ag Pg (n+1) f j M=fD (ag Pg n) d j M:=λj M=>by show(match Pg f with|none=>Res.bad|some d=>fD (ag Pg n) d j M)=_;rw[e]
     obtain⟨ad,J,ps,N,st,x,I,h1,F,O,z,S,R,hs,u⟩:=(h f d e).ex;refine .inr {ad,J,ps,h1,F.kp,O,λj M hl=>?_,?_,z}
     ·rw[eq];unfold fD;rw[if_neg (by rw[R];exact hl)]
     ·refine vR F S (λY H Q E v=>v.1) λy A outer s H Y Q E hr v=>{_,u (ag Pg n) n y A outer s H E U hr,?_};obtain⟨hl,μ,M,j,L,hr,B⟩:=v;rw[eq] at B;exact qZ hs L hr B
def n6 (P:QK)(e:QN)(h:Str×Addr):Prop:=∃t,e={PyData.keyHash P h.1,.str h.1 t,.ref h.2}
structure fc (K:OU) (P:QK) (a:Addr) (kvs:List (Str×Addr)):Prop where
 ex:∃(es:Array QN) (n:Nat),K.lookup a=some {cls:=.type "dict",data:=.dict es n}/\QT (n6 P) es.toList kvs
 nd:(kvs.map (·.1)).Nodup
 ns:(a==sysModules)=false
def vJ (kvs:List (Str×Addr)):List (Key×OX):=kvs.map λh=>(Sum.inr h.1,.ref h.2)
def ud:∀{es:List QN}{kvs:List (Str×Addr)},QT (n6 P) es kvs->∀e∈es,∃x t,e.key=.str x t/\e.hash=PyData.keyHash P x
 |_,_,.nil,e,h=>nomatch h
 | _, _, .cons r t, e, h => by
   rcases PJ.mp h with z|z
   ·subst z;obtain⟨t,rfl⟩:=r;exact{_,t,rfl,rfl}
   ·exact ud t e z
def oR:∀{es:List QN}{kvs:List (Str×Addr)},QT (n6 w.params) es kvs->Pairs (jT prog w) es (vJ kvs)
 |_,_,.nil=>.nil
 | e :: es, h :: kvs, .cons r t => by
   obtain⟨u,rfl⟩:=r;exact Pairs.cons (jq h.1 u) rfl (oR t)
def tN (I:Inv X pins σ H s)(h:fc X.K X.w.params a kvs):s.heap.DictOf (jT X.prog X.w) a (vJ kvs):=by
 obtain⟨j,n,lk,pr⟩:=h.ex;refine{_,j,n,I.kIn _ _ lk,⟨rfl,rfl,rfl⟩,rfl,λe he=>?_,oR pr,?_}
 ·obtain⟨x,t,e1,e2⟩:=ud pr e (by simpa using he)
  exact{Sum.inr x,by rw[e1];exact jq x t,e2}
 ·have e:(vJ kvs).map (·.1)=(kvs.map (·.1)).map Sum.inr:=by unfold vJ;simp
  rw[e];exact List.Pairwise.map _ (λa b (n:a≠b) z=>n (Sum.inr.inj z)) h.nd
def zy (kvs:List (Str×Addr))(k:Str):valueAt (vJ kvs) (Sum.inr k:Key)=(kvs.lookup k).map Value.ref:=by
 induction kvs with
 |nil=>rfl
 | cons j r h =>
   unfold valueAt vJ at h ⊢;rw[PV,List.find?_cons,PK];by_cases e:j.1=k
   ·subst e;simp
   ·have e2:decide ((Sum.inr j.1:Key)=Sum.inr k)=false:=decide_eq_false λz=>e (Sum.inr.inj z);have u:=Qf.mpr (Qk e);rw[e2,u];exact h
def dZ (fa:Fa)(kvs:List (Str×Addr))(fs:List (Str×Nat)):Prop:=QT (λ(p:Str×Addr) (q:Str×Nat)=>p.1=q.1/\fa q.2=some p.2) kvs fs
def dZ.look:∀{kvs:List (Str×Addr)}{fs:List (Str×Nat)},dZ fa kvs fs->(fs.lookup k=none/\kvs.lookup k=none)\/∃f ad,fs.lookup k=some f/\kvs.lookup k=some ad/\fa f=some ad
 |_,_,.nil=>.inl ⟨rfl,rfl⟩
 | (x, a) :: r, (y, f) :: t, .cons ⟨e1, e2⟩ q => by
   subst e1;rw[PK,PK];cases e:k==x with
   |true=>exact .inr ⟨f,a,rfl,rfl,e2⟩
   |false=>exact dZ.look q
def kD (fs:List (Str×Nat))(i:GE):GE:=λh M=>(i h M).bind λd M=>match d with
 |.str k=>bL M ((fs.lookup k).map D.fn)
 |_=>.bad
def iu (fs:List (Str×Nat))(i:GE):GE:=λh M=>(i h M).bind λd M=>match d with
 |.str k=>.ok (.bl (!(fs.lookup k).isSome)) M
 |_=>.bad
section
variable{fa:Fa}{X:Cx}{a b:Expr}{ga gb:GE}{pos p:Pos}{ad:Addr}{kvs:List (Str×Addr)}{fs:List (Str×Nat)}{x:Str}
def BP (hd:fc X.K X.w.params ad kvs):jA X (λx y H Q=>∃k v,x=.ref ad/\y=.str k/\kvs.lookup k=some v/\Q (.ref v) H):=by
 intro z j E s P H x y v u Q I M O h hs;obtain⟨k,c,rfl,rfl,hk,q⟩:=h;cases M;obtain⟨t,rfl⟩:=O;have B:=tN I hd;have J:s.TypeIs (.ref ad) "dict":=let{o,_,_,ho,{L,_},_}:=B;⟨o,ho,L⟩
 refine tail_any J PySem.F.slot_dict_getitem.lookup (wpAny_getItem_of (k:=(Sum.inr k:Key)) (jq k t) B.mapOf (v:=.ref c) ?_ ?_) hs
 ·rw[zy,hk];rfl
 ·exact{.ref c,H,I.tok _,rfl,q}
def sY (hd:fc X.K X.w.params ad kvs):bz X (compareOp .NotIn) (λx y H Q=>∃k,x=.str k/\y=.ref ad/\Q (.bl (!(kvs.lookup k).isSome)) H):=by
 intro j s F H x y v u Q I B E h;obtain⟨k,rfl,rfl,q⟩:=h;obtain⟨t,rfl⟩:=B;cases E;have z:=tN I hd;refine wpAny_notIn_of (k:=(Sum.inr k:Key)) (jq k t) hd.ns z.mapOf ?_;rw[zy,Q9];exact{.bl _,H,I.tok _,rfl,q}
def HR (hd:fc X.K X.w.params ad kvs)(ho:dZ fa kvs fs)(L:Gl X x)(hm:X.mg x=some (.ref ad))(u:(x==("__debug__":Str))=false)(J:DE fa X b gb)(hs:fP b):DE fa X (.Subscript (.Name x p) b pos) (kD fs gb):=
 bq (ow (BP hd) (jQ (v:=.ref ad) L hm rfl u) J hs) λU H Q ⟨R,S,M,E,I,h⟩=>t1 E I h λd P v z y O F j r1 h1=>by
  cases d with
  | str k =>
    obtain⟨d,e,q⟩:=iG h1;rcases ho.look with⟨e1,_⟩|⟨f,c,e1,e2,B⟩
    ·rw[e1] at e;cases e
    ·rw[e1] at e;cases e;exact{k,c,rfl,r1,e2,q (.ref c) z y O j {c,rfl,.inl B}}
  |_=>exact h1.elim
def Bx {d:D}{P:D->Mem->Prop}(h:ae (match d with|.str k=>Res.ok (.bl (!(fs.lookup k).isSome)) M1|_=>.bad) P):∃k,d=.str k/\P (.bl (!(fs.lookup k).isSome)) M1:=by
 cases d with
 |str k=>exact⟨k,rfl,h⟩
 |_=>exact h.elim
def B8 (ho:dZ fa kvs fs)(k:Str):(kvs.lookup k).isSome=(fs.lookup k).isSome:=by
 rcases ho.look with⟨e1,e2⟩|⟨f,c,e1,e2,_⟩<;>rw[e1,e2]<;>rfl
def zM (ho:dZ fa kvs fs)(z:L2.St)(H:Hp)(Q:VK)(h:tE fa X.K (iu fs ga) z H Q):yq (λx y H Q=>∃k,x=.str k/\y=.ref ad/\Q (.bl (!(kvs.lookup k).isSome)) H) (tE fa X.K ga) (tC (.ref ad)) z H Q:=by
 obtain⟨O,P,M,E,I,h⟩:=h;refine t1 E I h λd L v B u J F j r1 h1=>?_;obtain⟨k,rfl,q⟩:=Bx h1;refine{k,r1,rfl,?_};rw[B8 ho];exact q (.bl _) B u J j rfl
def HQ (hd:fc X.K X.w.params ad kvs)(ho:dZ fa kvs fs)(z:Gl X x)(hm:X.mg x=some (.ref ad))(j:(x==("__debug__":Str))=false)(y:DE fa X a ga)(u:behindInMarks .NotIn (.Name x p)=false):DE fa X (.Compare a [.NotIn] [.Name x p] pos) (iu fs ga):=
 bq (pR (sY hd) y (jQ (v:=.ref ad) z hm rfl j) u) λB H Q h=>zM ho B H Q h
def HZ (hd:fc X.K X.w.params ad kvs)(ho:dZ fa kvs fs)(J:Gl X x)(hm:X.mg x=some (.ref ad))(j:(x==("__debug__":Str))=false)(I:DE fa X a ga)(u:behindInMarks .NotIn (.Name x p)=false):DT fa X (.Compare a [.NotIn] [.Name x p] pos) (aq (iu fs ga)):=
 jP (pO (sY hd) I (jQ (v:=.ref ad) J hm rfl j) u) λW H Q h=>by
  refine zM ho W H _ ?_;obtain⟨S,U,M,E,F,h⟩:=h;obtain⟨z,M3,e,q⟩:=ax h;refine{S,U,M,E,F,?_};rw[e];have L:∃k,z=.bl k:=by
   obtain⟨d,Y,e1,e2⟩:=ez e;cases d<;>first|(cases e2;exact{_,rfl})|cases e2
  obtain⟨k,rfl⟩:=L;intro v B y R O P;obtain rfl:v=.bl k:=P;exact{k,rfl,q B y R O}
def lU (m:Bool)(a:GE):GE:=λh M=>(a h M).bind λx M=>match x with
 |.int n=>if -(2^62)<=n/\n<2^20 then a7 m ((List.range n.toNat).map λ(k:Nat)=>D.int (k:Int)) M else .bad
 |_=>.bad
def w8:∀(n:Nat) (y:List OX),y.length=n->(∀(i:Nat) (v:OX),y[i]?=some v->∃t,v=.int (i:Int) t)->Vals ((List.range n).map λ(k:Nat)=>V.int (k:Int)) y:=by
 intro n y hl h;have z:∀(k:Nat) (y:List OX),(∀(i:Nat) (v:OX),y[i]?=some v->∃t,v=.int ((k+i:Nat):Int) t)->Vals ((List.range y.length).map λj=>V.int ((k+j:Nat):Int)) y:=by
  intro k y;induction y generalizing k with
  |nil=>intro _;exact .nil
  | cons v r B =>
    intro h;rw[PD,List.range_succ_eq_map,PV,Qi];refine .cons (h 0 v rfl) ?_;have:=B (k+1) λi u e=>by
     have:=h (i+1) u (by simpa using e)
     rw[show k+1+i=k+(i+1) by omega];exact this
    refine cast (congrArg (λf=>Vals ((List.range r.length).map f) r) ?_) this
    funext j
    congr 2
    omega
 have:=z 0 y λi v e=>by rw[Nat.zero_add];exact h i v e
 rw[hl] at this;simpa using this
def Fd (m:Bool)(hc:X.calm=true)(ha:DE fa X a ga)(L:Gl X "list")(P:X.mg "list"=none)(hg:Gl X "range")(hm:X.mg "range"=none)(hs:starEach [a] X.env=[(false,eval a X.env)])
 (F:starEach [.Call (.Name "range" p2) [a] [] pos2] X.env=[(false,eval (.Call (.Name "range" p2) [a] [] pos2) X.env)]) :
 DE fa X (.Call (.Name "list" p1) [.Call (.Name "range" p2) [a] [] pos2] [] pos) (lU m ga):=by
 intro y s σ H Q I ⟨μ,Z,M,hE,hM,h⟩;obtain⟨x,M1,e,q⟩:=ax h;have U:∀n,x=.int n->ae (if -(2^62)<=n/\n<2^20 then a7 m ((List.range n.toNat).map λ(k:Nat)=>D.int (k:Int)) M1 else .bad) (aZ fa X.K μ H Q)->
  wpAny (model X.prog X.w) X.A (eval (.Call (.Name "list" p1) [.Call (.Name "range" p2) [a] [] pos2] [] pos) X.env) (EP X y σ Q) X.xe s:=λn en J=>by
  subst en;by_cases c:-(2^62)<=n/\n<2^20
  ·rw[if_pos c] at J;refine Call_ (fX I L P (by decide +kernel:bootBuiltins "list"=some (.type "list")) (Qw ?_ F rfl))
   rw[F];refine Calls.spliced_cons ?_;refine Call_ (fX I hg hm boot_range (Qw (aI (cU ha eB hs pos2 y s σ H (λvs E=>∃j,vs=[.int n]/\Ext μ H j E/\RelM fa X.K j E M1) I {μ,Z,M,hE,hM,?_}) λus s1 ⟨vs,E,I1,r1,j,ev,Y,W⟩=>?_) hs rfl))
   ·rw[e];intro v E j Y W r1;obtain rfl:v=.int n:=r1;exact⟨j,rfl,Y,W⟩
   subst ev;cases r1 with
   | cons r rr =>
     cases rr;obtain⟨t,rfl⟩:=r;refine call_range_1 ?_;refine Calls.spliced_nil ?_;refine call_list_range (n:=n.toNat) (I.ok.hd hc) (IsRange.new ..) (small_one `a `a `a `a) (by rw[rangeSize_one];split<;>omega) `a λh' tk B c' kp eS S=>?_
     obtain⟨R,O⟩:=S;have I2:Inv X y σ E {s1 with heap:=s1.heap.push {cls:=.type "range",data:=.fields #[.int 0 s1.toks,.int n t,.int 1 (s1.toks+1)]},toks:=s1.toks+1+1}:=I1.kept λb o e=>OW _ e
     have hv:=w8 n.toNat B.toList (by simpa using R) λi v e=>by
      obtain⟨u,z⟩:=O i v (by simpa using e)
      exact{u,by rw[z];simp}
     have rl:aB fa X.K j E ((List.range n.toNat).map λ(k:Nat)=>D.int (k:Int)) ((List.range n.toNat).map λ(k:Nat)=>V.int (k:Int)):=by
      have:=aB.ints (fa:=fa) (K:=X.K) (μ:=j) (H:=E) ((List.range n.toNat).map λ(k:Nat)=>(k:Int));simpa[Qi,Function.comp_def] using this
     obtain⟨c1,k1⟩:=gq W rl (jR J Y);refine{.ref _,_,I2.laid (o:=.lst ((List.range n.toNat).map λ(k:Nat)=>V.int (k:Int))) kp (OZ _) {?_,B.toList,c',hv,by simpa using eS},rfl,k1 _ (I2.hok.fresh (OZ _))}
     rw[rl.length,<- dm];exact c1
  ·rw[if_neg c] at J;exact J.elim
 cases x with
 |int n=>exact U n rfl q
 |_=>exact q.elim
end
noncomputable def qk (bn N:List Str)(sc scope:Scope):Bool:=
 scope.names.all (λy=>(y.2 != .cell||scope.names.lookup y.1==some .cell)&&(y.2 != .local||scope.names.lookup y.1==some .local)&&(y.2 != .free||sc.names.lookup y.1==some .cell||sc.names.lookup y.1==some .free)) &&
 bn.length==N.length&&(bn.zip N).all λp=>(p.1==p.2&&(scope.names.lookup p.2 != some .local&&scope.names.lookup p.2 != some .cell))||scope.names.lookup p.1==none
def oA {j v:Type}{R:j->v->Prop}:∀{l:List j}{r:List v},l.length=r.length->(∀p∈l.zip r,R p.1 p.2)->QT R l r
 |[],[],_,_=>.nil
 |a::l,b::r,h,g=>.cons (g (a,b) Pm) (oA (by simpa using h) λp z=>g p (O6 _ z))
 |[],_::_,h,_=>by cases h
 |_::_,[],h,_=>by cases h
def zY (hk:scope.kind=.function)(hs:X.env.scope=sc)(v:X.N=N)(h:qk bn N sc scope=true):eU X own bn scope:=by
 unfold qk at h;rw[O3,O3,Pk,Pk] at h;obtain⟨⟨h1,hl⟩,h2⟩:=h;refine{hk,λy j e=>?_,λy j e=>?_,λy j e=>?_,?_}
 ·have:=h1 y j;rw[e] at this;simpa using this
 ·have:=h1 y j;simp only[O3] at this;rw[e] at this;simpa using this
 ·have:=h1 y j;simp only[O3] at this;rw[e] at this;show X.env.scope.names.lookup y.1=_\/X.env.scope.names.lookup y.1=_;rw[hs];simpa using this
 ·rw[v];refine oA (by simpa using hl) λp z=>?_
  have:=h2 p z;simp only[QJ,O3,beq_iff_eq,bne_iff_ne] at this;exact this
section
variable{fa:Fa}{X:Cx}{elt tg iter c t2 i2:Expr}{scope:Scope}{pos:Pos}{own bn:List Str}{t u:fg}{gw gw2:GW}{ge:GE}{gc:GT}
def kc {l:List Nat}(h:l.all (· < n)=true):∀i∈l,i<n:=λi j=>by
 have:=Pk.mp h i j;simpa using this
def yK {l W:List Nat}(h:W.all (λi=>!l.contains i)=true):∀i∈W,i∉l:=λi j z=>by
 have:=Pk.mp h i j;simp[z] at this
variable{i:Nat}{y:Str}{py spos:Pos}
def Fe {i:Int}(j:Gl X x)(hm:∃t,X.mg x=some (.int i t))(hd:(x==("__debug__":Str))=false):DE fa X (.Name x pos) (gC (.int i)):=let{_,h}:=hm;HP j h hd
def Fg (h:∃ad j,X.mg x=some (.ref ad)/\fc X.K X.w.params ad j/\dZ fa j fs)(B:Gl X x)(v:(x==("__debug__":Str))=false)(z:DE fa X b gb)(hs:fP b):DE fa X (.Subscript (.Name x p) b pos) (kD fs gb):=
 let{_,_,h1,h2,h3}:=h;HR h2 h3 B h1 v z hs
def Ff (h:∃ad j,X.mg x=some (.ref ad)/\fc X.K X.w.params ad j/\dZ fa j fs)(E:Gl X x)(v:(x==("__debug__":Str))=false)(B:DE fa X a ga)(z:behindInMarks .NotIn (.Name x p)=false):DE fa X (.Compare a [.NotIn] [.Name x p] pos) (iu fs ga):=
 let{_,_,h1,h2,h3}:=h;HQ h2 h3 E h1 v B z
def Fi (h:∃ad j,X.mg x=some (.ref ad)/\fc X.K X.w.params ad j/\dZ fa j fs)(E:Gl X x)(v:(x==("__debug__":Str))=false)(B:DE fa X a ga)(z:behindInMarks .NotIn (.Name x p)=false):DT fa X (.Compare a [.NotIn] [.Name x p] pos) (aq (iu fs ga)):=
 let{_,_,h1,h2,h3}:=h;HZ h2 h3 E h1 v B z
def Fb (h:bK (n+4) X.A):Rm X:=by have:=h.un;show X.A.units+100<cLine;omega
end
section
variable{fa:Fa}{X:Cx}{a st:Expr}{ga:GE}{pos p2:Pos}
def HN (m:Bool)(x:D)(M:Mem):Res D:=match x with
 |.tup xs=>.ok (.tup xs.reverse) M
 | x => match d3 M x with
   |some xs=>a7 m xs.reverse M
   |none=>.bad
end
def mm {fa:Fa}{mg:Str->Option OX}(e:fa i=some f)(m:mg x=some (.ref f)):∀ad,fa i=some ad->mg x=some (.ref ad):=λad h=>by rw[e] at h;cases h;exact m
def us1 {j:Type}{p:List j->Prop}(h:∀a,p [a])(us:List j)(hl:us.length=1):p us:=by
 obtain⟨a,rfl⟩:=List.length_eq_one_iff.mp hl;exact h a
def us2 {j:Type}{p:List j->Prop}(h:∀a b,p [a,b]):∀(us:List j) (hl:us.length=2),p us
 |[a,b],_=>h a b
def us3 {j:Type}{p:List j->Prop}(h:∀a b c,p [a,b,c]):∀(us:List j) (hl:us.length=3),p us
 |[a,b,c],_=>h a b c
def us4 {j:Type}{p:List j->Prop}(h:∀a b c d,p [a,b,c,d]):∀(us:List j) (hl:us.length=4),p us
 |[a,b,c,d],_=>h a b c d
def zq {K:OU}(X:K.In h)(G:h.Ns mainGlobals mg)(a:PySem.W.nsIn K mainGlobals x=some (some (.ref f))):mg x=some (.ref f):=Qy X G a
def zD:QT (n6 P) [] []:=.nil
def fK (h:QT (n6 P) es kvs):QT (n6 P) ({PyData.keyHash P x,.str x t,.ref a}::es) ((x,a)::kvs):=.cons ⟨t,rfl⟩ h
def CU (K:OU):Sp:=λj H Q _=>∃(a:Addr) (ns:List Int),j=[.ref a]/\c9 K H a (ns.map V.int)/\xG H/\ns.length<=63/\∀h,Q (.bl true) h
def Jb {K:OU}{ad:Addr}{st:Stmt}(h:∀f d,Pg f=some d->xM fa P w K mg base f d)
 (hl:∀ns:List Int,ns.length<=63->∃M,ag Pg (n+1) f [.frz (ns.map D.int)] []=.ok (.bl true) M) (e:Pg f=some d) (F:we K x qual st ad fd) (S:iM N [y] (aY st)) (hs:d.slots=N.length)
 (u:∀(call:Call) (n:Nat) (j:OX) (A:Qx) (outer:List Qu) (s:O0) (H:Hp) (E:XK),(∀f,eD fa P w K mg base n f (call f))->bK (2*n+5) (A.deeper (envOfC qual (aY st) s.heap.objs.size ad j))->
  j7 fa (fF (ib P w) P w K mg base N qual (aY st) ad j A outer s H E) (cV st) (d.body call)):gJ P w K mg base (ib P w) (2*n+5+1) ad fd [y] (CU K):=by
 have eq:∀I M,ag Pg (n+1) f I M=fD (ag Pg n) d I M:=λI M=>by show(match Pg f with|none=>Res.bad|some d=>fD (ag Pg n) d I M)=_;rw[e]
 refine vR (we.toD F) S (λU H Q E B=>?_) λj A outer s H U Q E hr B=>{_,u (ag Pg n) n j A outer s H E (uw h n) hr,?_}
 ·obtain⟨a,ns,rfl,_⟩:=B;rfl
 ·obtain⟨a,ns,rfl,R,O,hn,q⟩:=B;obtain⟨Y,J⟩:=hl ns hn;rw[eq] at J;have rp:aB fa K {λ_=>none,[],λ_=>none} H [.frz (ns.map D.int)] [.ref a]:=by
   refine{.ref a,[],rfl,{a,ns.map V.int,rfl,?_,aB.ints ns},rfl};rcases R with(z|⟨o,z⟩)|z
   ·rcases O a with y|⟨o,xs,y⟩
    ·rw[y] at z;cases z
    ·rw[y] at z;cases z
   ·exact .inl ⟨o,z⟩
   ·exact .inr z
  refine qZ (μ:={λ_=>none,[],λ_=>none}) (M:=[]) hs {λk I z=>by simp at z,λ_ _=>rfl,λ_ _=>rfl,(λ_ _ _ z=>nomatch z),(λ_ _ _ z=>nomatch z),(λ_ _ z=>nomatch z),(λ_ z=>nomatch z)} rp ?_
  rw[J];intro v L X _ _ r;obtain rfl:v=.bl true:=r;exact q L
def vG {K:OU}{ad:Addr}(X:K.In h)(G:h.Ns mainGlobals mg)(a:PySem.W.nsIn K mainGlobals x=some (some (.ref ad)))
 (l:K.lookup ad=some {cls:=.type "dict",data:=.dict es n}) (he:QT (n6 P) es.toList j) (nd:(j.map (·.1)).Nodup) (ns:(ad==sysModules)=false) (dk:dZ fa j fs):∃ad j,mg x=some (.ref ad)/\fc K P ad j/\dZ fa j fs:=
 {ad,j,Qy X G a,{⟨es,n,l,he⟩,nd,ns},dk}
end LD
namespace LD
open PySem PySem.Spec PySem.Calls PyProof.Rows PySem.W
section
variable{prog:PH}{w:PC}{A:Qx}{E:OX->O0->Prop}{s:O0}{K:Frag}{x C:Addr}{ox:Obj}{od:Option Obj}{name:Str}
noncomputable def GV (K:Frag)(C:Addr):Bool:=findIn K (.ref C) "__getattribute__"==some (some (.builtin "BaseException.__getattribute__"))&&findIn K (.ref C) "__getattr__"==some none&&mroIn K C (.type "BaseException")==some true&&mroIn K C (.type "object")==some true &&
 findIn K (.ref C) "__class__"==some (some (.builtin "object.__class__"))&&specialIn K (.builtin "object.__class__") "__get__"==some (some (.builtin "getset_descriptor.__get__"))&&takesIn K (.builtin "object.__class__")==some true
end
end LD
namespace LD
open PySem PySem.Spec PyProof.Rows L2
noncomputable def bf (f:Nat)(c:Call)(s:GA):GE:=λj M=>match s j M with
 |.ok h M=>c f h M
 |_=>.bad
noncomputable def pD (k:D->Mem->Res Fl)(Z:Env):Res D->Res Fl
 |.ok d M=>k d M
 |.err x M=>.ok (.exc x Z) M
 |.bad=>.bad
def fB (a:GE):GS:=λh M=>pD (λ_ M=>.ok (.next h) M) h (a h M)
def cv (t:fg)(a:GE):GS:=λh M=>pD (λx M=>(bL M (bV t x h)).bind λj M=>.ok (.next j) M) h (a h M)
def mw (a:GE):GS:=λh M=>pD (λx M=>.ok (.ret x) M) h (a h M)
noncomputable def xh (t:GT)(a b:GE):GE:=λh M=>match t h M with
 |.ok k M=>if k then a h M else b h M
 |_=>.bad
noncomputable def di (c:Nat)(s:GA):GS:=λh M=>match s h M with
 |.ok j M=>if j.length<=sz then .ok (.exc (.exc c none) h) M else .bad
 |_=>.bad
def Ho (fa:Fa)(X:Cx)(g:GE):TE:=λv H Q=>∃h j M,bb fa X.K h H v j/\RelM fa X.K h H M/\dW (g j M) (aZ fa X.K h H Q) (λx u=>XW fa X h H x j u)
abbrev DX (fa:Fa)(X:Cx)(e:Expr)(g:GE):Prop:=PE X e (Ho fa X g)
section
variable{fa:Fa}{X:Cx}{a b:Expr}{ga gb:GE}{ta:GT}{pos p:Pos}{es:List Expr}{gs:GA}{n:Nat}
def x_call (f:Nat){call:Call}(C:∀f,eD fa X.prog X.w X.K X.mg X.base n f (call f))(hr:bK (2*n+4) X.A)(hex:X.ex=[])(hg:Gl X x)(hm:∀ad,fa f=some ad->X.mg x=some (.ref ad))(hs:DA fa X (a::es) gs)
 (hdb:(x==("__debug__":Str))=false) (he:notStar a=true) (hpl:es.all notStar=true):DX fa X (.Call (.Name x p) (a::es) [] pos) (bf f call gs):=by
 intro B s σ H Q I ⟨μ,Z,M,hE,hM,h⟩;unfold bf at h;cases eg:gs Z M with
 |err=>rw[eg] at h;exact h.elim
 |bad=>rw[eg] at h;exact h.elim
 | ok E R =>
   rw[eg] at h;have h:dW (call f E R) (aZ fa X.K μ H Q) (λx P=>XW fa X μ H x Z P):=h;rcases C f with hb|⟨ad,fd,ps,h1,h2,h3,h4,F,_⟩
   ·rw[hb] at h;exact h.elim
   ·have hl:E.length=ps.length:=by
     by_cases hl:E.length=ps.length
     ·exact hl
     ·rw[h4 E R hl] at h;exact h.elim
    refine wpAny_Call_Name_kw (gy I hg (hm ad h1) ?_ hdb);refine Q3 I.ok.mod.kin h2 (aI (hs pos B s σ H (λU z=>∃j,Ext μ H j z/\RelM fa X.K j z R/\aB fa X.K j z E U) I {μ,Z,M,hE,hM,by rw[eg];exact λU z j Y m1 r1=>⟨j,Y,m1,r1⟩}) λus s1 ⟨U,z,O,r,j,Y,m1,r1⟩=>{O.kIn,?_}) (ba he) (cP hpl)
    have hsp:yJ fa X.K ps.length (call f) U z Q λCv dx J=>∃y P v C' c p,Cv=.ref C'/\Ext j z v J/\RelM fa X.K v J P/\y=.exc c p/\fa (ft c)=some C'/\uJ J c dx p/\XW fa X μ H y Z P:=by
     refine{by rw[r1.length];exact hl,j,R,E,m1,r1,?_}
     cases S:call f E R with
     |ok d M2=>rw[S] at h;exact aZ.ext h Y
     |err y M2=>rw[S] at h;exact λC dx c p J v y' m ex hc hn=>{_,M2,v,C,c,p,rfl,y',m,ex,hc,hn,h}
     |bad=>rw[S] at h;exact h.elim
    have hl2:us.length=ps.length:=by rw[<- r.length,r1.length];exact hl
    have hb:=h3 s1 us O.kIn (by simpa using hl2)
    rw[Qr] at hb;refine wpAny_call (codeAny_mono (F.run X.A X.stack s1 z {us,[]} us U Q _ hr O.env0 hb r hsp) λr' s' L=>?_);cases r' with
    | error e =>
      unfold CR at L;obtain⟨a',C',dx,J,rfl,I',fl,y,P,v,C2,c,p,S,ye,m',ey,hc,hn,hw⟩:=qQ O hex L;cases S;exact hw B σ J v s' a' C' dx c p I' (Y.trans ye) ((hE.ext Y).ext ye) m' ey hc hn fl
    | ok fl =>
      cases fl with
      |ret u=>exact O.after L
      |next=>exact False.elim L
      |brk=>exact False.elim L
      |cont=>exact False.elim L
def Ek (f:Nat){call:Call}(C:∀f,eD fa X.prog X.w X.K X.mg X.base n f (call f))(hr:bK (2*n+4) X.A)(hex:X.ex=[])(hg:Gl X x)(hm:∀ad,fa f=some ad->X.mg x=some (.ref ad))(hdf:(fa (500+f)).isSome=true)(hs:DE fa X a ga)
 (hdb:(x==("__debug__":Str))=false) (he:notStar a=true):DX fa X (.Call (.Name x p) [a] [] pos) (bf f call (b7 ga (b7 (gC .non) bx))):=by
 intro E s σ H Q I ⟨μ,Z,M,hE,hM,h⟩;unfold bf at h;cases eg:ga Z M with
 |err=>unfold b7 at h;rw[eg] at h;exact h.elim
 |bad=>unfold b7 at h;rw[eg] at h;exact h.elim
 | ok L S =>
   unfold b7 at h;rw[eg] at h;have h:dW (call f [L,.non] S) (aZ fa X.K μ H Q) (λx R=>XW fa X μ H x Z R):=h;rcases C f with hb|⟨ad,fd,ps,h1,h2,h3,h4,F,hbd⟩
   ·rw[hb] at h;exact h.elim
   ·have hl:2=ps.length:=by
     by_cases hl:2=ps.length
     ·exact hl
     ·rw[h4 [L,.non] S hl] at h;exact h.elim
    refine wpAny_Call_Name_kw (gy I hg (hm ad h1) ?_ hdb);refine Q3 I.ok.mod.kin h2 (aI (cU hs eB (ba he) pos E s σ H (λvs B=>∃v j,vs=[v]/\Ext μ H j B/\RelM fa X.K j B S/\Rep fa X.K j B L v) I {μ,Z,M,hE,hM,by rw[eg];exact λv B j x1 m1 r1=>⟨v,j,rfl,x1,m1,r1⟩}) λus s1 ⟨vs,B,P,r,v0,j,ev,x1,m1,r0⟩=>{P.kIn,?_}) (ba he) (cP rfl)
    subst ev;have r1:aB fa X.K j B [L,.non] [v0,.non]:={v0,[.non],rfl,r0,.non,[],rfl,rfl,rfl};have hsp:yJ fa X.K ps.length (call f) [v0,.non] B Q λCv dx J=>∃y R z C' c p,Cv=.ref C'/\Ext j B z J/\RelM fa X.K z J R/\y=.exc c p/\fa (ft c)=some C'/\uJ J c dx p/\XW fa X μ H y Z R:=by
     refine{hl,j,S,[L,.non],m1,r1,?_};cases U:call f [L,.non] S with
     |ok d M2=>rw[U] at h;exact aZ.ext h x1
     |err y M2=>rw[U] at h;exact λC dx c p J z y' m ex hc hn=>{_,M2,z,C,c,p,rfl,y',m,ex,hc,hn,h}
     |bad=>rw[U] at h;exact h.elim
    have Y:=r.length.symm;have hb:=hbd hdf s1 us P.kIn (by rw[O9,Y];exact hl)
    obtain⟨u0,rfl⟩:∃u0,us=[u0]:=List.length_eq_one_iff.mp Y;have r2:Vals [v0,.non] [u0,.none]:=by cases r with|cons a _=>exact .cons a (.cons rfl .nil)
    refine wpAny_call (codeAny_mono (F.run X.A X.stack s1 B {[u0],[]} [u0,.none] [v0,.non] Q _ hr P.env0 hb r2 hsp) λr' s' O=>?_);cases r' with
    | error e =>
      unfold CR at O;obtain⟨a',C',dx,J,rfl,I',fl,y,R,z,C2,c,p,U,ye,m',ey,hc,hn,hw⟩:=qQ P hex O;cases U;exact hw E σ J z s' a' C' dx c p I' (x1.trans ye) ((hE.ext x1).ext ye) m' ey hc hn fl
    | ok fl =>
      cases fl with
      |ret u=>exact P.after O
      |next=>exact False.elim O
      |brk=>exact False.elim O
      |cont=>exact False.elim O
def KG (S:DT fa X c ta)(P:DX fa X a ga)(R:DX fa X b gb):DX fa X (.IfExp c a b pos) (xh ta ga gb):=
 bq (sW S P R) λW H Q ⟨B,j,M,F,O,h⟩=>by
  unfold xh at h;cases u:ta j M with
  |err=>rw[u] at h;exact h.elim
  |bad=>rw[u] at h;exact h.elim
  | ok k v =>
    rw[u] at h;refine{B,j,M,F,O,?_};rw[u];intro I E z U;have go:∀g:GE,dW (g j v) (aZ fa X.K B H Q) (λx J=>XW fa X B H x j J)->Ho fa X g W I Q:=λg q=>by
     refine{E,j,v,F.ext z,U,?_};cases e:g j v with
     |ok d L=>rw[e] at q;exact aZ.ext q z
     |err y L=>rw[e] at q;exact XW.ext q z
     |bad=>rw[e] at q;exact q
    cases k with
    |true=>exact go ga h
    |false=>exact go gb h
def K5 (I:DX fa X a ga)(hs:swapsWith a none pos.line X.env=pure false):DS fa X (.Expr a pos) (fB ga):=
 cM (my I hs) λP O H ⟨L,z,M,u,F,h⟩=>{L,z,M,u,F,by
  unfold fB at h;cases e:ga z M with
  |ok d E=>rw[e] at h;exact λv B j y J r1=>h O B j y (u.ext y) J
  |err x E=>rw[e] at h;exact h
  |bad=>rw[e] at h;exact h.elim}
def HE (R:DX fa X a ga)(S:PG X tg (gT fa X.K t))(hs:swapsWithSole [tg] a pos.line X.env=pure false)(U:swappedStores [tg] a X.env=pure none)(h1:(assignEach [tg] X.env).map (·.2)=[assign tg X.env]) :
 DS fa X (.Assign [tg] a pos) (cv t ga):=
 cM (lF R S hs U h1) λD σ H ⟨W,y,M,I,Q,h⟩=>{W,y,M,I,Q,by
  unfold cv at h;cases e:ga y M with
  | ok d P =>
    rw[e] at h;obtain⟨E,M2,u,q⟩:=ax h;cases z:bV t d y with
    |none=>rw[z] at u;cases u
    | some Y =>
      rw[z] at u;cases u;exact λv O j L J r1=>{j,y,_,d,E,I.ext L,J,r1,z,λF B=>q F O j L B J}
  |err x P=>rw[e] at h;exact h
  |bad=>rw[e] at h;exact h.elim}
def Hz (z:DX fa X a ga):DS fa X (.Return (some a) pos) (mw ga):=
 cM (yW z) λE F H ⟨B,j,M,v,y,h⟩=>{B,j,M,v,y,by
  unfold mw at h;cases e:ga j M with
  |ok d u=>rw[e] at h;exact h
  |err x u=>rw[e] at h;exact h
  |bad=>rw[e] at h;exact h.elim}
end
noncomputable abbrev Ac:List OX:=[.type "ValueError",.type "Exception",.type "BaseException",.type "object"]
noncomputable def Hx (K:OU)(C:Addr)(f:ClassData->Addr->List OX->String->Bool):Bool:=match K.lookup C with
 | some {.type "type", _, .cls h, sl} => (match h.mro, sl.toList with
   |.ref j::bm,[_,_,_,_,some (.builtin n),_]=>f h j bm n
   |_,_=>false)
 |_=>false
set_option tactic.hygienic true in
def Hw {K:OU}(X:K.In h)(q:Hx K C f=true) :
 ∃u N nm q bs hdct sn sub ab col dd k0 k1 k2 k3 k5 dl n j,f {nm,bs,.ref j::u,N,q,hdct,sn,sub,ab,col,dl} j u n=true/\h.get? C=some {.type "type",dd,.cls {nm,bs,.ref j::u,N,q,hdct,sn,sub,ab,col,dl},#[k0,k1,k2,k3,some (.builtin n),k5]}:=by
 unfold Hx at q;split at q
 ·rename_i dd y sl ho;split at q
  ·rename_i j u k0 k1 k2 k3 n k5 hm hs;obtain⟨nm,bs,B,ns,qn,hd,sn,sub,ab,col,z⟩:=y;subst hm;have v:sl=#[k0,k1,k2,k3,some (.builtin n),k5]:=by
    obtain⟨l⟩:=sl;simp only at hs;rw[hs]
   subst v;exact{_,_,_,_,_,_,_,_,_,_,_,_,_,_,_,_,_,_,_,q,X _ _ ho}
  ·cases q
 ·cases q
def B1 {K:OU}(X:K.In h)(q:PySem.W.excIn K C bmB newId=true) :
 ∃j N nm q bs hdct sn sub ab col dd k0 k1 k2 k3 k5 v,h.get? C=some (excClassObj nm q C N bs j hdct sn sub ab col dd k0 k1 k2 k3 k5 newId)/\h.Ns N v/\v "__init__"=none/\OwnTail h bmB j:=by
 obtain⟨j,ns,nm,qn,bs,hd,sn,sub,ab,col,dd,k0,k1,k2,k3,k5,dl,n,z,q,ho⟩:=Hw X q;simp only[O3,beq_iff_eq,Bool.not_eq_true'] at q;obtain⟨⟨⟨⟨⟨rfl,rfl⟩,rfl⟩,y⟩,hok⟩,u⟩:=q;exact{j,ns,nm,qn,bs,hd,sn,sub,ab,col,dd,k0,k1,k2,k3,k5,_,ho,.of_isNs (PySem.W.isNs_of_in X hok),PySem.W.nsMap_none_of_in X hok u,PySem.W.tail_of_in X y}
def zh (x:eA P w H h a o):∃ob,h.get? a=some ob:=by
 cases o with
 |lst xs=>obtain⟨_,_,_,_,e⟩:=x;exact{_,e}
 |tup xs=>obtain⟨_,_,_,ob,e,_⟩:=x;exact{_,e}
 |dK j=>obtain⟨_,_,_,_,o,_,_,e,_⟩:=x;exact{_,e}
 |dT j=>obtain⟨_,_,_,_,o,_,_,e,_⟩:=x;exact{_,e}
 |set S n=>obtain⟨o,_,_,_,e,_⟩:=x;exact{_,e}
 |ins C v fs=>obtain⟨_,_,_,e,_⟩:=x;exact{_,e}
 |own y=>exact x
 |xd fs=>obtain⟨_,⟨_,_,_,e,_⟩,_⟩:=x;exact{_,e}
 |rng lo z=>obtain⟨_,_,_,e⟩:=x;exact{_,e}
 |frz ob u=>obtain⟨e,_⟩:=x;exact{_,e}
 |tbl ps=>exact{_,x}
 |met f y=>exact{_,x}
 |ext B=>obtain⟨_,e,_⟩:=x;exact e
 |dn es=>obtain⟨_,_,o,e,_⟩:=x;exact⟨o,e⟩
def tQ (I:Inv X pins σ H s)(h:X.ex=[])(hn:s.heap.get? e=none):xH X e/\H e=none:=by
 refine{{?_,λp v z=>?_},?_}
 ·cases q:X.s₀.heap.get? e with
  |none=>rfl
  | some o =>
    obtain⟨y,j⟩:=I.base.there e o q (by rw[h];simp)
    rw[hn] at j;cases j
 ·have:=(I.pin p (Qh _ v)).1;rw[z,hn] at this;cases this
 ·cases q:H e with
  |none=>rfl
  | some u =>
    obtain⟨ob,z⟩:=zh (I.hok e u q);rw[hn] at z;cases z
section
variable{fa:Fa}{X:Cx}{a b:Expr}{ga gb:GE}{ta:GT}{pos p:Pos}{es:List Expr}{gs:GA}{n:Nat}
set_option tactic.hygienic true in
def E8 (c:Nat){x:Str}(hx:∃C,X.mg x=some (.ref C)/\fa (ft c)=some C/\PySem.W.excIn X.K C Ac "ValueError.__new__"=true)(L:X.ex=[])(hg:Gl X x)(hc:X.calm=true)(hs:DA fa X (a::es) gs)
 (J:(x==("__debug__":Str))=false) (he:notStar a=true) (S:es.all notStar=true):DS fa X (.Raise (some (.Call (.Name x np) (a::es) [] cpos)) none pos) (di c gs):=by
 intro u s σ H D' I ⟨μ,Z,M,hE,hM,h⟩;obtain⟨C,Q,O,P⟩:=hx;obtain⟨bm,N,nm,q,bs,hdct,sn,sub,ab,col,dd,k0,k1,k2,k3,k5,mN,hC,hN,R,T⟩:=B1 I.ok.mod.kin P;unfold di at h;cases z:gs Z M with
 |err=>rw[z] at h;exact h.elim
 |bad=>rw[z] at h;exact h.elim
 | ok ds M1 =>
   rw[z] at h;dsimp only at h;split at h
   ·next hz=>
    refine wpAny_Raise_call_subT (nm:=nm) (q:=q) (N:=N) (bs:=bs) (hdct:=hdct) (sn:=sn) (sub:=sub) (ab:=ab) (col:=col) (dd:=dd) (k0:=k0) (k1:=k1) (k2:=k2) (k3:=k3) (k5:=k5) PySem.F.excBase_ValueError (T.hasType `k) (I.ok.hd hc) (cP (by simp[he,S])) R (gy I hg Q {rfl,?_} J)
    have ar:=aI (hs cpos u s σ H (λvs v=>∃j,Ext μ H j v/\RelM fa X.K j v M1/\aB fa X.K j v ds vs) I {μ,Z,M,hE,hM,by rw[z];exact λvs v j E U r1=>⟨j,E,U,r1⟩}) (Q':=λY s2=>([]:List (Str×OX))=[]/\Y.length<=sizeLine/\s2.heap.get? C=some (excClassObj nm q C N bs bm hdct sn sub ab col dd k0 k1 k2 k3 k5 "ValueError.__new__")/\s2.heap.Ns N mN/\OwnTail s2.heap Ac bm/\∀B e,Heap.MadeExcOf s2.heap B e (.ref C) Y->X.xe (.ref e) {s2 with heap:=B}) λY s1 ⟨vs,v,y,r,j,E,U,r1⟩=>by
     refine{rfl,?_,y.bk _ _ hC,hN.keeps y.bk,T.keeps y.bk,λB e hm=>?_}
     ·rw[<- r.length,r1.length,<- dm];exact hz
     ·obtain⟨t,ht,_,_⟩:=hm.there;obtain⟨n1,n2⟩:=tQ y L hm.new;exact h u σ v j {s1 with heap:=B} e C none c none (y.kept hm.keeps) E (hE.ext E) U rfl O rfl {n1,n2,_,_,ht,rfl,rfl,rfl,.inl rfl}
    rw[ba he] at ar ⊢;exact PySem.Calls.evalArgs_plain ar
   ·exact h.elim
end
structure Kq (fa:Fa) (K:OU):Prop where
 g:∀c C,fa (ft c)=some C->GV K C=true/\PySem.W.mroIn K C (.type "ValueError")=some true/\PySem.W.isIn K (.ref C) C=true
 d:∀c C D,fa (ft c)=some C->fa 999=some D->PySem.W.isIn K (.ref C) D=true/\PySem.W.mroIn K C (.ref D)=some true/\PySem.W.mroIn K D (.type "BaseException")=some true/\PySem.W.typeIn K (.ref D)=some (.type "type")
 n:∀c C c' C',fa (ft c)=some C->fa (ft c')=some C'->c'≠c->PySem.W.kin_not K C C'=true
def xj (f:mj New C dx a s.heap H)(h:Q () s):wpAny M A (setFlight (.ref a) none) Q E s:=by
 obtain⟨_,_,o,B,h1,_,_,h4,z⟩:=f;rcases z with t|⟨T,y,ts,t1,_,_,_,j,u,v⟩
 ·refine tqa (tqf h1 h4 t ?_);rw[if_neg `d]
  exact tqb h
 ·refine tqa (tqf h1 h4 t1 ?_);rw[if_pos `s]
  refine wpAny_setField j u (QC.mp v).1 ?_;have e:=Heap.update_setField_same s.heap T y ts 3 .none j u v;show Q () {s with heap:=s.heap.update T (Obj.mapFields (·.setIfInBounds 3 .none))}
  rw[e];exact h
section
variable{X:Cx}{pins:List (Addr×Obj)}{σ:L2.St}{H:Hp}{s:O0}
noncomputable abbrev rW (X:Cx)(pn:List (Addr×Obj))(E:OX->O0->Prop):Cx:={X with pn:=pn,xe:=E}
noncomputable abbrev rX (X:Cx)(v:OX)(E:OX->O0->Prop):Cx:={X with A:=X.A.mark (some v),calm:=false,xe:=E}
def zJ (I:Inv X pins σ H s)(E:OX->O0->Prop):Inv (rW X (X.pn++pins) E) [] σ H s:=
 {⟨I.ok.mod,I.ok.kind,I.ok.glob,I.ok.blt,I.ok.above,I.ok.inj,I.ok.has,I.ok.cab,I.ok.hd,I.ok.frames,I.ok.stk,I.ok.exf,I.ok.bs,I.ok.bsz,I.ok.noex,I.ok.exfs,I.ok.funs,I.ok.frf⟩,I.os,I.bare,I.base,I.loc,I.cell,I.free,I.freeC,λp hp=>I.pin p (by simpa using hp),I.hok,I.len}
def gZ (I:Inv (rW X (X.pn++pins) E) pins' σ H s):Inv X pins σ H s:=
 {⟨I.ok.mod,I.ok.kind,I.ok.glob,I.ok.blt,I.ok.above,I.ok.inj,I.ok.has,I.ok.cab,I.ok.hd,I.ok.frames,I.ok.stk,I.ok.exf,I.ok.bs,I.ok.bsz,I.ok.noex,I.ok.exfs,I.ok.funs,I.ok.frf⟩,I.os,I.bare,I.base,I.loc,I.cell,I.free,I.freeC,λp hp=>I.pin p (Qh _ hp),I.hok,I.len}
def qP (I:Inv X pins σ H s)(v:OX)(E:OX->O0->Prop):Inv (rX X v E) pins σ H s:=
 {{I.ok.mod,I.ok.kind,I.ok.glob,I.ok.blt,I.ok.above,I.ok.inj,I.ok.has,I.ok.cab,(λz=>nomatch z),I.ok.frames,I.ok.stk,I.ok.exf,I.ok.bs,I.ok.bsz,I.ok.noex,I.ok.exfs,I.ok.funs,I.ok.frf},I.os,I.bare,I.base,I.loc,I.cell,I.free,I.freeC,I.pin,I.hok,I.len}
def js (hh:X.calm=true->X.A.handled=none)(I:Inv (rX X v E) pins σ H s):Inv X pins σ H s:=
 {⟨I.ok.mod,I.ok.kind,I.ok.glob,I.ok.blt,I.ok.above,I.ok.inj,I.ok.has,I.ok.cab,hh,I.ok.frames,I.ok.stk,I.ok.exf,I.ok.bs,I.ok.bsz,I.ok.noex,I.ok.exfs,I.ok.funs,I.ok.frf⟩,I.os,I.bare,I.base,I.loc,I.cell,I.free,I.freeC,I.pin,I.hok,I.len}
end
noncomputable def GY (K:OU)(cl:List (Nat×Addr))(D:Addr):Bool:=PySem.W.mroIn K D (.type "BaseException")==some true&&PySem.W.typeIn K (.ref D)==some (.type "type") &&
 cl.all λq=>GV K q.2&&PySem.W.mroIn K q.2 (.type "ValueError")==some true&&PySem.W.isIn K (.ref q.2) q.2&&PySem.W.isIn K (.ref q.2) D&&PySem.W.mroIn K q.2 (.ref D)==some true&&cl.all λr=>r.1==q.1||PySem.W.kin_not K q.2 r.2
noncomputable def t8 (l cl:List (Nat×Addr))(D:Addr):Fa:=λi=>if i<999 then l.lookup i else if i=999 then some D else cl.lookup (i-1000)
set_option tactic.hygienic true in
def lookup_mem:∀{l:List (Nat×Addr)}{c:Nat}{C:Addr},l.lookup c=some C->(c,C)∈l
 |[],_,_,h=>by cases h
 | (a, b) :: r, c, C, h => by
   rw[PK] at h;split at h
   ·next e=>cases h;rw[eq_of_beq e];exact Pm
   ·exact O6 _ (lookup_mem h)
def jZ {D:Addr}(h:t8 l cl D (ft c)=some C):(c,C)∈cl:=by
 unfold t8 ft at h;rw[if_neg `a,if_neg `a,Pz] at h
 exact lookup_mem h
def GX {K:OU}{D:Addr}(h:GY K cl D=true):Kq (t8 l cl D) K:=by
 unfold GY at h;simp only[O3,beq_iff_eq,Pk,QJ] at h;obtain⟨⟨h1,h2⟩,h3⟩:=h;refine{λc C e=>?_,λc C v e j=>?_,λc C y u e j n=>?_}
 ·obtain⟨⟨⟨⟨⟨a1,a2⟩,a3⟩,a4⟩,a5⟩,a6⟩:=h3 _ (jZ e);exact⟨a1,a2,a3⟩
 ·obtain⟨⟨⟨⟨⟨a1,a2⟩,a3⟩,a4⟩,a5⟩,a6⟩:=h3 _ (jZ e);cases j;exact⟨a4,a5,h1,h2⟩
 ·obtain⟨⟨⟨⟨⟨a1,a2⟩,a3⟩,a4⟩,a5⟩,a6⟩:=h3 _ (jZ e);exact(a6 _ (jZ j)).elim (λz=>absurd z n) id
def fit (z:Str)(i:Int)(y:Str):Prop:=i.natAbs.log2<1920/\(z++(toString i:Str)).length<=sizeLine/\(z++(toString i:Str)++y).length<=sizeLine
section
variable{X:Cx}{a:Expr}{ta:TE}{pos p1 p2 p3:Pos}{j j2:Nat}{z y:Str}
def tF3 (z y:Str)(ta:TE):TE:=λB H Q=>z.length<=sizeLine/\ta B H λv u=>∃i,v=.int i/\fit z i y/\Q (.str (z++(toString i:Str)++y)) u
def Ah (z:Str):Str.empty++z=z:=by
 cases z with
 |mk c=>show Str.mk (#[]++c)=_;simp
def Lg (P:PE X a ta):PE X (.JoinedStr [.Constant (.str z) j p1,.FormattedValue a (-1) none p2,.Constant (.str y) j2 p3] pos) (tF3 z y ta):=by
 intro B s S H Q I ⟨R,h⟩;refine JoinedStr_many (joinParts_cons (Calls.Constant_str ?_));show(Str.empty++z).length<=sizeLine/\_;rw[Ah];refine{R,joinParts_cons (FormattedValue_plain (aI (P B _ S H _ (I.tok _) h) λu s1 ⟨v,J,L,r1,i,M,⟨f1,O,F⟩,q⟩=>?_))};subst M;obtain⟨t,rfl⟩:=r1;refine formatField_int_small f1 {O,joinParts_cons (Calls.Constant_str {F,joinParts_nil ?_ F})};exact{.str _,J,L.tok _,{_,rfl},q}
end
def Kr (C:Addr)(v:Option Addr)(a:Addr)(h:Heap):Prop:=∃o u B,h.get? a=some o/\o.cls=.ref C/\o.dict=v/\o.data=.fields u/\u[0]?=some (.ref B)/\u[1]?=some .none
def JA (K:OU)(C:Addr)(fI:Addr):Bool:=Hx K C λcd C' bm n=>C'==C&&n=="ValueError.__new__"&&!cd.hasDel&&PySem.W.tailIn K Ac bm&&PySem.W.nsOkIn K cd.ns&&PySem.W.nsIn K cd.ns "__init__"==some (some (.ref fI))
def spI (C:Addr)(fld:Str):Sp:=λh H Q _=>∃e i,h=[.ref e,.int i]/\H e=some (.ext (Kr C none e))/\i.natAbs<2^64/\∀d,H d=none->d≠e->Q .non (upd (upd H d (.xd [(fld,.int i)])) e (.ext (Kr C (some d) e)))
def len_app (a b:Str):(a++b).length=a.length+b.length:=by
 show(Str.append a b).length=_;unfold Str.append Str.length;simp
def Jv {i:Int}(hz:z.length<=1000)(u:y.length<=1000)(hi:i.natAbs<2^64):fit z i y:=by
 have h1:i.natAbs.log2<1920:=by
  by_cases h:i.natAbs=0
  ·rw[h];decide
  ·exact Pj ((Nat.log2_lt h).mpr hi) `a
 have h2:=PyProof.Rows.int_text_len_1921 h1;have hs:sizeLine=16777216:=dm.symm;refine{h1,?_,?_}
 ·rw[len_app];omega
 ·rw[len_app,len_app];omega
def Am (fa:Fa)(P:PH)(w:PC)(K:OU)(mg:Str->Option OX)(base:Heap)(c:Nat)(x:Str):Prop:=
 ∃C h j y u,mg x=some (.ref C)/\fa (ft c)=some C/\JA K C h=true/\PySem.W.keepIn K (.ref C)=true/\K.lookup h=some u/\u.cls=.type "function"/\Binds K j ["self",y] []/\gJ P w K mg base (ib P w) 1 h j ["self",y] (spI C (Au c))
section
variable{fa:Fa}{X:Cx}{a b:Expr}{ga gb:GE}{ta:GT}{pos p np cpos:Pos}{es:List Expr}{gs:GA}{n:Nat}{x:Str}
def D3 (fa:Fa)(K:OU)(f:Str):Prop:=∀c C,fa (ft c)=some C->Au c=f->PySem.W.hasDictIn K C=true/\PySem.W.findIn K (.ref C) f=some none
end
def inC (s:Stmt):Stmt:=match s with
 |.ClassDef _ _ _ (b::_) _ _ _ _ _ _ _=>b
 |_=>s
def mZ (z y:Str)(a:GE):GE:=λh M=>(a h M).bind λd M=>match d with
 |.int i=>if z.length<=1000/\y.length<=1000/\i.natAbs<2^64 then .ok (.str (z++(toString i:Str)++y)) M else .bad
 |_=>.bad
set_option tactic.hygienic true in
def Nz (O:DE fa X a ga):DE fa X (.JoinedStr [.Constant (.str z) j p1,.FormattedValue a (-1) none p2,.Constant (.str y) j2 p3] pos) (mZ z y ga):=
 bq (Lg O) λW H Q ⟨B,U,M,J,L,h⟩=>by
  obtain⟨R,F,I,h1⟩:=ax h;cases R with
  | int i =>
    have h1:ae (if z.length<=1000/\y.length<=1000/\i.natAbs<2^64 then .ok (.str (z++(toString i:Str)++y)) F else .bad) (aZ fa X.K B H Q):=h1;split at h1
    ·next hm=>
     refine{Pa hm.1 (by rw[<- dm];decide),B,U,M,J,L,?_}
     rw[I];intro v E u S P r1;obtain rfl:v=.int i:=r1;exact{i,rfl,Jv hm.1 hm.2.1 hm.2.2,h1 (.str _) E u S P rfl}
    ·exact h1.elim
  |_=>exact h1.elim
def lr (k1 k2:Nat)(h:GS):Fl->Mem->Res Fl
 | .exc x j, M => match x with
   |.exc c _=>if c=k1\/c=k2 then(h j M).bind λfl M=>match fl with|.exc _ _=>.bad|fl=>.ok fl M else .bad
   |_=>.bad
 |fl,M=>.ok fl M
def lC (b:GS)(k1 k2:Nat)(h:GS):GS:=λj M=>(b j M).bind (lr k1 k2 h)
def wc (fa:Fa)(K:OU)(mg:Str->Option OX)(x1 x2:Str)(k1 k2:Nat):Prop:=∃h j,mg x1=some (.ref h)/\mg x2=some (.ref j)/\∀c C,c=k1\/c=k2->fa (ft c)=some C->PySem.W.exmAny K (.ref C) [.ref h,.ref j]=some true
noncomputable def Nd (K:OU)(cl:List (Nat×Addr))(h j:Addr)(k1 k2:Nat):Bool:=cl.all λq=>!(q.1==k1||q.1==k2)||PySem.W.exmAny K (.ref q.2) [.ref h,.ref j]==some true
def Hj {K:OU}{D j u:Addr}(y:mg x1=some (.ref j))(B:mg x2=some (.ref u))(h:Nd K cl j u k1 k2=true):wc (t8 l cl D) K mg x1 x2 k1 k2:=by
 refine{j,u,y,B,λc C v e=>?_};have:=Pk.mp h _ (jZ e);rw[QJ] at this;rcases this with z|z
 ·have e1:(c==k1||c==k2)=true:=by simpa using v
  rw[e1] at z;cases z
 ·exact eq_of_beq z
def t6 (M:Mem)(o:Nat)(nm:Str):Option D:=if 5000<=o then(match M[o-5000]? with
 |some (.int c::es)=>((b4 c.toNat).findIdx? (·==nm)).bind λi=>es[i]?
 |_=>none) else none
def dg (nm:Str)(a:GE):GE:=λh M=>(a h M).bind λx M=>match x with
 |.fn o=>bL M (t6 M o nm)
 |_=>.bad
def Al (fa:Fa)(K:OU):Prop:=∀c C,fa (fj c)=some C->b4 c≠[]->jf K C/\∀f∈b4 c,jd K C f
section
variable{fa:Fa}{K:OU}{μ:Mu}{H:Hp}{M:Mem}
def RelM.obj {c:Int}(h:RelM fa K μ H M)(ho:5000<=o)(z:μ.ob o=some a)(e:M[o-5000]?=some (.int c::es))(hf:b4 c.toNat≠[]) :
 ∃n C j fs,c=(n:Nat)/\fa (fj n)=some C/\H a=some (.ins C j fs)/\fs.map (·.1)=(b4 n).take fs.length/\aB fa K μ H es (fs.map (·.2)):=by
 have y:au (o-5000)=o:=Nat.add_sub_cancel' ho;rcases h.at' _ _ e with⟨b,J,h1,_⟩|⟨b,h1,h2,⟨n,C,j,fs,u,h3,h4,B,v,E⟩|⟨c,u,I,_,F,v,_⟩⟩
 ·have:=h.sep _ _ h1;rw[y,z] at this;cases this
 ·rw[y,z] at h1;cases h1;cases v;exact⟨n,C,j,fs,rfl,h3,h4,B,E⟩
 ·cases v;rcases F with rfl|rfl<;>exact absurd rfl hf
set_option tactic.hygienic true in
def tH:∀{fs:List (Str×V)}{ns:List Str}{i:Nat}{v:V},fs.map (·.1)=ns.take fs.length->ns.findIdx? (·==nm)=some i->(fs.map (·.2))[i]?=some v->fs.lookup nm=some v
 |[],_,_,_,_,_,e=>by simp at e
 |(x,u)::fs,[],_,_,h,_,_=>by simp at h
 | (x, u) :: fs, y :: ns, i, v, h, f, e => by
   simp only[PV,PD,List.take_succ_cons,List.cons.injEq] at h;obtain⟨rfl,h⟩:=h;rw[List.findIdx?_cons] at f;split at f
   ·next q=>
    cases f;cases e;rw[PK,show(nm==x)=true by rw[<- eq_of_beq q,beq_self_eq_true]]
   ·next q=>
    obtain⟨j,B,rfl⟩:=O8.mp f;rw[PK,show(nm==x)=false by rw[Bool.eq_false_iff];exact λz=>q (by rw[<- eq_of_beq z,beq_self_eq_true])]
    exact tH h B e
end
section
variable{fa:Fa}{X:Cx}{a:Expr}{ga:GE}{pos:Pos}
set_option tactic.hygienic true in
def L8 (nm:Str)(Y:Al fa X.K)(hf:∀o,5000<=o->fa o=none)(W:DE fa X a ga)(j:attributeBase a nm X.env (eval a X.env)=eval a X.env):DE fa X (.Attribute a nm pos) (dg nm ga):=
 bq (Iq W j) λσ H Q ⟨μ,Z,M,R,U,h⟩=>by
  obtain⟨x0,M1,J,h⟩:=ax h;refine{μ,Z,M,R,U,?_};rw[J];intro v F B x1 E r1;cases x0 with
  | fn o =>
    obtain⟨d,y,q⟩:=iG h;unfold t6 at y;split at y
    ·next ho=>
     split at y
     ·next c es O=>
      obtain⟨i,u,L⟩:=PB.mp y;obtain⟨b,rfl,j⟩:=r1;rcases j with j|⟨_,j⟩
      ·rw[hf o ho] at j;cases j
      obtain⟨n,C,I,fs,rfl,P,S,hn,hr⟩:=E.obj ho j O (λz=>by rw[z] at u;cases u)
      rw[QB] at u;obtain⟨v,hv,rv⟩:=hr.get L;have ne:b4 n≠[]:=λz=>by rw[z] at u;cases u
      obtain⟨cl,na⟩:=Y n C P ne;have mem:nm∈b4 n:=by
       obtain⟨hl,h1,_⟩:=Rl.mp u;rw[<- eq_of_beq h1];exact QZ _
      exact{b,C,I,fs,v,rfl,S,cl,na nm mem,tH hn u hv,q v F B x1 E rv}
     ·cases y
    ·cases y
  |_=>exact h.elim
end
def p9 (M:Mem)(o:Nat)(nm:Str)(z:D):Option Mem:=if 5000<=o then(match M[o-5000]? with
 |some (.int c::es)=>((b4 c.toNat).findIdx? (·==nm)).bind λi=>if i<es.length then some (M.set (o-5000) (.int c::es.set i z)) else if i=es.length then some (M.set (o-5000) (.int c::(es++[z]))) else none
 |_=>none) else none
def jm (nm:Str)(a v:GE):GS:=λh M=>(v h M).bind λz M=>(a h M).bind λx M=>match x with
 | .fn o => (match p9 M o nm z with
   |some j=>.ok (.next h) j
   |none=>.bad)
 |_=>.bad
def BY (n:Nat):(b4 n).length<1000:=by
 unfold b4;split<;>decide
set_option tactic.hygienic true in
def vd:∀{fs:List (Str×V)}{ns:List Str}{i:Nat},fs.map (·.1)=ns.take fs.length->ns.findIdx? (·==nm)=some i->i<fs.length->(cT nm v fs).map (·.1)=fs.map (·.1)/\(cT nm v fs).map (·.2)=(fs.map (·.2)).set i v
 |(x,u)::fs,[],_,h,_,_=>by simp at h
 | (x, u) :: fs, y :: ns, i, h, f, l => by
   simp only[PV,PD,List.take_succ_cons,List.cons.injEq] at h;obtain⟨rfl,h⟩:=h;rw[List.findIdx?_cons] at f;show(if x=nm then(x,v)::fs else(x,u)::cT nm v fs).map _=_/\(if x=nm then(x,v)::fs else(x,u)::cT nm v fs).map _=_;split at f
   ·next q=>
    cases f;rw[if_pos (eq_of_beq q)];exact⟨rfl,rfl⟩
   ·next q=>
    obtain⟨j,B,rfl⟩:=O8.mp f;rw[if_neg (λz=>q (by rw[z,beq_self_eq_true]))]
    obtain⟨h1,h2⟩:=vd h B (Nat.lt_of_succ_lt_succ l);exact{by rw[PV,h1];rfl,by rw[PV,h2];rfl}
set_option tactic.hygienic true in
def vf:∀{fs:List (Str×V)}{ns:List Str},fs.map (·.1)=ns.take fs.length->ns.findIdx? (·==nm)=some fs.length->cT nm v fs=fs++[(nm,v)]
 |[],_,_,_=>rfl
 |(x,u)::fs,[],h,_=>by simp at h
 | (x, u) :: fs, y :: ns, h, f => by
   simp only[PV,PD,List.take_succ_cons,List.cons.injEq] at h;obtain⟨rfl,h⟩:=h;rw[List.findIdx?_cons] at f;show(if x=nm then(x,v)::fs else(x,u)::cT nm v fs)=_;split at f
   ·cases f
   ·next q=>
    obtain⟨j,B,e⟩:=O8.mp f;cases e;rw[if_neg (λz=>q (by rw[z,beq_self_eq_true])),vf h B];rfl
section
variable{fa:Fa}{K:OU}{μ:Mu}{H:Hp}{M:Mem}
def Ext.ins (h:RelM fa K μ H M)(y:H a=some (.ins C j fs)):Ext μ H μ (upd H a (.ins C j fs')):=by
 have ne:∀{b o},H b=some o->(∀C j fs,o≠.ins C j fs)->b≠a:=λg n z=>by rw[z,y] at g;cases g;exact n _ _ _ rfl
 refine{{λ_ _ q=>q,λb v g=>?_,λb v g n=>{by rw[ao (ne g (λ_ _ _ z=>by cases z))];exact g,n},λb ob u g=>by rw[ao (ne g (λ_ _ _ z=>by cases z))];exact g,λb o i g=>?_,λ_ _ q=>q},rfl,λb B=>?_}
 ·rcases g with g|⟨ob,g⟩
  ·exact .inl (by rw[ao (ne g (λ_ _ _ z=>by cases z))];exact g)
  ·exact .inr {ob,by rw[ao (ne g (λ_ _ _ z=>by cases z))];exact g}
 ·rw[ao (ne g (λ_ _ _ z=>by rcases i with⟨_,i⟩|⟨_,i⟩<;>(rw[i] at z;cases z)))];exact g
 ·obtain⟨⟨v,g⟩,_⟩:=h.pv b B;rw[ao (ne g (λ_ _ _ z=>by cases z))]
def RelM.objW (h:RelM fa K μ H M)(e:M[k]?=some ds)(v:μ.ob (au k)=some a)(I:fa (fj n)=some C)(F:H a=some (.ins C dx fs))(hn:fs'.map (·.1)=(b4 n).take fs'.length)(hr:aB fa K μ H es (fs'.map (·.2))) :
 RelM fa K μ (upd H a (.ins C dx fs')) (M.set k (.int n::es)):=by
 have x:Ext μ H μ (upd H a (.ins C dx fs')):=Ext.ins h F;refine{λj y q=>?_,λj u=>h.out j (by simpa using u),λj u=>h.oout j (by simpa using u),h.inj,h.oinj,h.sep,λb B=>{let{⟨E,g⟩,_}:=h.pv b B;{E,by rw[x.pk b B];exact g},(h.pv b B).2}}
 by_cases u:j=k
 ·subst u;have hl:j<M.length:=(OV.mp e).1;rw[Py hl] at q;cases q;have L:μ.pub j=none:=by
   cases z:μ.pub j with
   |none=>rfl
   |some b=>rw[h.sep j b z] at v;cases v
  exact .inr {a,v,L,.inl {n,C,dx,fs',es,I,bH,hn,rfl,hr.ext x}}
 ·rw[O5 (Qk u)] at q;rcases h.at' j y q with⟨b,E,h1,h2,h3⟩|⟨b,h1,h2,h3⟩
  ·exact .inl {b,E,h1,by rw[ao (λz=>by rw[z,F] at h2;cases h2)];exact h2,h3.ext x}
  ·have J:b≠a:=λz=>u (h.oinj _ _ a (z ▸ h1) v);exact .inr {b,h1,h2,h3.extW x.toExtW (ao J)}
end
section
variable{fa:Fa}{X:Cx}{a e:Expr}{ga gv:GE}{pos pos':Pos}
set_option tactic.hygienic true in
def K1 (nm:Str)(hc:Al fa X.K)(hf:∀o,5000<=o->fa o=none)(ha:DE fa X a ga)(hv:DE fa X e gv)(hs:swapsWith e (some (.Attribute a nm pos')) pos.line X.env=pure false):DS fa X (.Assign [.Attribute a nm pos'] e pos) (jm nm ga gv):=
 cM (Ie ha hv hs) λD' σ H ⟨μ,Z,M,hE,hM,h⟩=>t2 hE hM h λz x Y v u W I x2 Q y rz rx h2=>by
  cases x with
  | fn o =>
    dsimp only at h2;cases j:p9 Y o nm z with
    |none=>rw[j] at h2;exact h2.elim
    | some M' =>
      rw[j] at h2;have q:=h2;unfold p9 at j;split at j
      ·next ho=>
       split at j
       ·next c es em=>
        obtain⟨i,B,j⟩:=PB.mp j;obtain⟨b,rfl,F⟩:=rx;rcases F with F|⟨_,F⟩
        ·rw[hf o ho] at F;cases F
        obtain⟨n,C,dx,fs,rfl,hC,P,hn,hr⟩:=y.obj ho F em (λz=>by rw[z] at B;cases B)
        rw[QB] at B;have ne:b4 n≠[]:=λz=>by rw[z] at B;cases B
        obtain⟨cl,na⟩:=hc n C hC ne;obtain⟨S,O,_⟩:=Rl.mp B;have mem:nm∈b4 n:=by rw[<- eq_of_beq O];exact QZ _
        have lf:fs.length<=(b4 n).length:=by
         have:=congrArg List.length hn;rw[OY,PR] at this;omega
        have le:es.length=fs.length:=by rw[<- hr.length,OY]
        have R:I.ob (au (o-5000))=some b:=by rw[show au (o-5000)=o from Nat.add_sub_cancel' ho];exact F
        refine{b,C,dx,fs,rfl,P,cl,na nm mem,Ri lf (BY n),?_};have J:∀E,M'=Y.set (o-5000) (.int n::E)->(cT nm v fs).map (·.1)=(b4 n).take (cT nm v fs).length->aB fa X.K I W E ((cT nm v fs).map (·.2))->D'.nx σ (upd W b (.ins C dx (cT nm v fs))):=λE e1 e2 e3=>by
         subst e1;exact q σ _ I (x2.trans (Ext.ins y P)) (Q.ext (Ext.ins y P)) (y.objW em R hC P e2 e3)
        split at j
        ·next U=>
         obtain⟨p1,p2⟩:=vd hn B (le ▸ U);have pl:(cT nm v fs).length=fs.length:=by have:=congrArg List.length p1;simpa using this
         exact J _ (O2 j).symm (by rw[p1,pl];exact hn) (by rw[p2];exact hr.set i rz)
        ·split at j
         ·next _ L=>
          rw[L,le] at B;have pa:=vf (v:=v) hn B;refine J _ (O2 j).symm ?_ (by rw[pa,Pn];exact hr.append (.one rz))
          rw[pa,Pn,hn,O9];subst L;rw[Q8,List.take_add_one]
          congr 1
          rw[Pd (by rw[<- le];exact S)]
          have:=eq_of_beq O;simp only[le] at this;simp[this]
         ·cases j
       ·cases j
      ·cases j
  |_=>exact h2.elim
end
def pC (fa:Fa)(K:OU)(m:Str)(c f:Nat):Prop:=∃C,fa (fj c)=some C/\jf K C/\(∀ad,fa f=some ad->Meth K C m ad)/\m∉b4 c/\b4 c≠[]
noncomputable def gX (M:Mem)(o:Nat):Option Nat:=if 5000<=o then(match M[o-5000]? with
 |some (.int c::_)=>some c.toNat
 |_=>none) else none
def cx (c f:Nat)(call:Call)(a:GE)(s:GA):GE:=λh M=>(a h M).bind λx M=>match x with
 |.fn o=>if gX M o=some c then(s h M).bind λj M=>call f (.fn o::j) M else .bad
 |_=>.bad
def qM:∀{fs:List (Str×V)}{ns:List Str},fs.map (·.1)=ns.take fs.length->m∉ns->fs.lookup m=none
 |[],_,_,_=>rfl
 |(x,u)::fs,[],h,_=>by simp at h
 | (x, u) :: fs, y :: ns, h, n => by
   simp only[PV,PD,List.take_succ_cons,List.cons.injEq] at h;obtain⟨rfl,h⟩:=h;rw[PK,show(m==x)=false from Qf.mpr λz=>n (by rw[z];exact Pm)]
   exact qM h λz=>n (O6 _ z)
def vH (h:attributeBase o m env (eval o env)=eval o env)(u:methodCallForm args.length (backTo pos (starEach args env)) (backToKw pos (keywordEach [] env))=true)(j:(apos.endLine==pos.line)=true) :
 ∃pl,eval (.Call (.Attribute o m apos) args [] pos) env=(do
  let v <- eval o env
  standAt apos.atName
  let(f,first) <- holding [v] (getMethod v m pl)
  callWith pos f first (backTo pos (starEach args env)) (backToKw pos (keywordEach [] env))):=by
 refine{(do let b <- importBound o env;pure (b.getD true)),?_}
 rw[eval,h];unfold methodCall;simp only[List.length_nil,Nat.add_zero,u];have e:methodCallPos true o env apos pos=pure pos:=by unfold methodCallPos;rw[j];rfl
 simp only[e,pure_bind];rfl
section
variable{fa:Fa}{X:Cx}{o e:Expr}{es:List Expr}{go:GE}{gs:GA}{pos apos:Pos}{n c f:Nat}{m:Str}{call:Call}
set_option tactic.hygienic true in
def qL (ht:∀E H R,tA fa X.K gs E H R->t E H R)(hf:∀o,5000<=o->fa o=none)(W:fa (fj c)=some C)(B:m∉b4 c/\b4 c≠[])(Y:bb fa X.K μ H E Z)(hM:RelM fa X.K μ H M)(h:ae (cx c f call go gs Z M) (aZ fa X.K μ H Q))
 (hk:∀ds M1,ds.length≠k->call f ds M1=.bad):wy C m (yJ fa X.K k (call f)) [] E0 (tE fa X.K go) t E H Q:=
 t1 Y hM h λx M1 v H1 μ1 x1 F z r1 h1=>by
  cases x with
  | fn o =>
    dsimp only at h1;split at h1
    ·next j=>
     unfold gX at j;split at j
     ·next ho=>
      split at j
      ·next c' U S=>
       obtain⟨b,rfl,u⟩:=id r1;rcases u with u|⟨_,u⟩
       ·rw[hf o ho] at u;cases u
       obtain⟨n',C',P,fs,rfl,y,hH,hn,_⟩:=z.obj ho u S (by rw[O2 j];exact B.2)
       rw[QB] at j;obtain rfl:n'=c:=O2 j;rw[W] at y;cases y;refine{b,P,fs,rfl,hH,qM hn B.1,?_};refine ht _ _ _ (qB F z h1 λds L vs H2 J O hE2 I r2 h2=>?_);rw[Qr];refine{?_,J,L,.fn o::ds,I,{_,vs,rfl,Rep.ext O r1,r2},oE (jR h2 (x1.trans O))};rw[PD,r2.length];by_cases hl:(D.fn o::ds).length=k
       ·exact hl
       ·rw[hk _ L hl] at h2;exact h2.elim
      ·cases j
     ·cases j
    ·exact h1.elim
  |_=>exact h1.elim
def tB (j:∀ds M,call f ds M=.bad)(h:ae (cx c f call go gs Z M) P):False:=by
 obtain⟨x,u,_,h⟩:=ax h;cases x with
 | fn o =>
   dsimp only at h;split at h
   ·obtain⟨ds,v,_,h⟩:=ax h;rw[j] at h;exact h
   ·exact h
 |_=>exact h
def J6 (O:eD fa X.prog X.w X.K X.mg X.base n f (call f))(hr:bK (2*n+4) X.A)(hf:∀o,5000<=o->fa o=none)(P:fa (fj c)=some C)(cl:jf X.K C)(hm:∀ad,fa f=some ad->Meth X.K C m ad)(y:m∉b4 c/\b4 c≠[])(ho:DE fa X o go)(hs:DA fa X (e::es) gs)
 (j:attributeBase o m X.env (eval o X.env)=eval o X.env) (v:methodCallForm (e::es).length (backTo pos (starEach (e::es) X.env)) (backToKw pos (keywordEach [] X.env))=true) (u:(apos.endLine==pos.line)=true)
 (he:starEach (e::es) X.env=(false,eval e X.env)::starEach es X.env) (B:(backTo pos (starEach es X.env)).any (·.1)=false) :
 DE fa X (.Call (.Attribute o m apos) (e::es) [] pos) (cx c f call go gs):=by
 rcases O with R|⟨ad,Y,ps,h1,h2,h3,h4,F,_⟩
 ·exact λL s W H Q I ⟨μ,U,M,E,J,h⟩=>(tB R h).elim
 ·obtain⟨pl,S⟩:=vH j v u;exact bq (Ft ho cl (hm ad h1) F hr h3 .nil oy hs he B S) λW H Q ⟨μ,U,M,E,J,h⟩=>qL (λ_ _ _ z=>z) hf P y E J h h4
def Gn (L:eD fa X.prog X.w X.K X.mg X.base n f (call f))(hr:bK (2*n+4) X.A)(hf:∀o,5000<=o->fa o=none)(O:fa (fj c)=some C)(cl:jf X.K C)(hm:∀ad,fa f=some ad->Meth X.K C m ad)(y:m∉b4 c/\b4 c≠[])(ho:DE fa X o go)
 (j:attributeBase o m X.env (eval o X.env)=eval o X.env) (u:(apos.endLine==pos.line)=true) :
 DE fa X (.Call (.Attribute o m apos) [] [] pos) (cx c f call go bx):=by
 rcases L with P|⟨ad,U,ps,h1,h2,h3,h4,F,_⟩
 ·exact λB s J H Q I ⟨μ,E,M,z,v,h⟩=>(tB P h).elim
 ·obtain⟨pl,S⟩:=vH (args:=[]) j rfl u;exact bq (Bs ho cl (hm ad h1) F hr h3 .nil oy S) λJ H Q ⟨μ,E,M,z,v,h⟩=>qL (λJ H R ⟨μ,E,M,_,v,h⟩=>h [] H μ Ext.refl v rfl) hf O y z v h h4
end
noncomputable def eY (μ:Mu)(k:Nat)(p:Addr):Mu:={μ.pub,μ.priv,λj=>if j=au k then some p else μ.ob j}
section
variable{fa:Fa}{K:OU}{μ:Mu}{H:Hp}{M:Mem}
def RelM.ob_ins (h:RelM fa K μ H M)(e:μ.ob (au k)=some a):∃o,H a=some o:=by
 by_cases hk:k<M.length
 ·rcases h.at' k M[k] (by simp[hk]) with⟨b,j,h1,_⟩|⟨b,h1,h2,h3⟩
  ·rw[h.sep _ _ h1] at e;cases e
  ·rw[e] at h1;cases h1;exact let{o,z,_}:=h3.hold;⟨o,z⟩
 ·rw[h.oout k (Nat.le_of_not_lt hk)] at e;cases e
set_option tactic.hygienic true in
def Ext.objNew (h:RelM fa K μ H M)(u:H x=none)(hd:H dx=none)(ne:dx≠x):Ext μ H (eY μ M.length x) (upd (upd H dx (.own x)) x (.ins C dx [])):=by
 have e1:Ext μ H μ (upd H dx (.own x)):=Ext.alloc h hd;have e2:Ext μ (upd H dx (.own x)) μ (upd (upd H dx (.own x)) x (.ins C dx [])):=Ext.alloc (h.alloc hd) (by rw[ao (Qk ne)];exact u)
 have e:=e1.trans e2;refine{{e.mu,e.tups,λb v g n=>{(e.lsts b v g n).1,n},e.frzs,e.exts,λj b z=>?_},rfl,e.pk};show(if j=au M.length then some x else μ.ob j)=some b;split
 ·next q=>rw[q,h.oout _ (OZ _)] at z;cases z
 ·exact z
set_option tactic.hygienic true in
def RelM.objNew (h:RelM fa K μ H M)(u:H x=none)(hd:H dx=none)(ne:dx≠x)(J:fa (fj c)=some C):RelM fa K (eY μ M.length x) (upd (upd H dx (.own x)) x (.ins C dx [])) (M++[[.int c]]):=by
 have X:Ext μ H (eY μ M.length x) (upd (upd H dx (.own x)) x (.ins C dx [])):=Ext.objNew h u hd ne;have old:∀{b o},H b=some o->(upd (upd H dx (.own x)) x (.ins C dx [])) b=some o:=λg=>by rw[ao (aO g u),ao (aO g hd)];exact g
 have pc:∀{k b},(eY μ M.length x).ob (au k)=some b->(k=M.length/\b=x)\/μ.ob (au k)=some b:=λ{k b} z=>by
  have z:(if au k=au M.length then some x else μ.ob (au k))=some b:=z;split at z
  ·next q=>cases z;exact .inl {QX q,rfl}
  ·exact .inr z
 refine{λk I q=>?_,λk hk=>h.out k (by simp at hk;omega),λk hk=>?_,h.inj,λj k b e1 e2=>?_,λk b z=>?_,λb E=>{?_,(h.pv b E).2}}
 ·by_cases hk:k<M.length
  ·rw[O4 hk] at q;rcases h.at' k I q with⟨b,B,h1,h2,h3⟩|⟨b,h1,h2,h3⟩
   ·exact .inl {b,B,h1,old h2,h3.ext X}
   ·exact .inr {b,X.obs _ _ h1,h2,h3.extW X.toExtW (by obtain⟨o,e,_⟩:=h3.hold;rw[old e,e])}
  ·have y:k=M.length:=by
    have:=(OV.mp q).1;simp at this;omega
   subst y;rw[Pp (OZ _)] at q;simp at q;subst q;exact .inr {x,by show(if au M.length=au M.length then some x else _)=some x;rw[if_pos rfl],h.out _ (OZ _),.inl {c,C,dx,[],[],J,bH,rfl,rfl,rfl}}
 ·show(if au k=au M.length then some x else μ.ob (au k))=none;simp at hk;rw[if_neg (λz=>by have:=QX z;omega)]
  exact h.oout k `a
 ·rcases pc e1 with⟨a1,a2⟩|a1<;>rcases pc e2 with⟨v,F⟩|v
  ·omega
  ·subst a2;obtain⟨_,z⟩:=h.ob_ins v;rw[u] at z;cases z
  ·subst F;obtain⟨_,z⟩:=h.ob_ins a1;rw[u] at z;cases z
  ·exact h.oinj j k b a1 v
 ·show(if au k=au M.length then some x else μ.ob (au k))=none;have z:μ.pub k=some b:=z;rw[if_neg (λq=>by rw[QX q,h.out _ (OZ _)] at z;cases z)]
  exact h.sep k b z
 ·obtain⟨⟨B,g⟩,_⟩:=h.pv b E;exact{B,old g}
end
def jt (c f:Nat)(call:Call)(s:GA):GE:=λu M=>(s u M).bind λj M=>(call f (.fn (au M.length)::j) (M++[[.int c]])).bind λr h=>match r with
 |.non=>.ok (.fn (au M.length)) h
 |_=>.bad
section
variable{fa:Fa}{X:Cx}{e:Expr}{es:List Expr}{gs:GA}{pos p:Pos}{n c f:Nat}{x:Str}{call:Call}
def J7 (CO:eD fa X.prog X.w X.K X.mg X.base n f (call f))(hr:bK (2*n+4+1) X.A)(hf:∀o,5000<=o->fa o=none)(hC:fa (fj c)=some C)(mk:∀ad,fa f=some ad->Mk X.K C ad)(hg:Gl X x)(hm:X.mg x=some (.ref C))(hs:DA fa X (e::es) gs)
 (O:(x==("__debug__":Str))=false) (he:starEach (e::es) X.env=(false,eval e X.env)::starEach es X.env) (R:(backTo pos (starEach es X.env)).any (·.1)=false) :
 DE fa X (.Call (.Name x p) (e::es) [] pos) (jt c f call gs):=by
 rcases CO with hb|⟨ad,fd,ps,h1,h2,h3,h4,F,_⟩
 ·intro pins s σ H Q I ⟨μ,Z,M,W,Y,h⟩;obtain⟨E,j,_,h⟩:=ax h;rw[hb] at h;exact h.elim
 ·exact bq (Fu (mk ad h1) F hr hg hm h3 .nil oy hs O he R) λσ H Q ⟨μ,Z,M,W,Y,h⟩=>qB W Y h λE j vs B u x1 hE1 y r1 q=>by
   intro a z na nd ne;rw[Qr];have U:Ext u B (eY u j.length a) (upd (upd B z (.own a)) a (.ins C z [])):=Ext.objNew y na nd ne;have P:(eY u j.length a).ob (au j.length)=some a:=by
    show(if au j.length=au j.length then some a else _)=some a;rw[if_pos rfl]
   have rs:Rep fa X.K (eY u j.length a) (upd (upd B z (.own a)) a (.ins C z [])) (.fn (au j.length)) (.ref a):={a,rfl,.inr {hf _ (Qg _ _),P}};obtain⟨r,M2,J,q⟩:=ax q;refine{?_,eY u j.length a,j++[[.int c]],.fn (au j.length)::E,y.objNew na nd ne hC,{_,vs,rfl,rs,r1.ext U},?_}
   ·rw[PD,r1.length];by_cases hl:(D.fn (au j.length)::E).length=ps.length
    ·exact hl
    ·rw[h4 _ _ hl] at J;cases J
   ·rw[J];intro v H3 S x3 L r3;cases r with
    | non =>
      obtain rfl:v=.non:=r3;exact{rfl,q (.ref a) H3 S (x1.trans (U.trans x3)) L (rs.ext x3)}
    |_=>exact q.elim
end
def Od (a:GE):GE:=λj M=>(a j M).bind λx M=>match x with
 | .cell k => match M[k]? with
   | some h => match h[h.length - 1]? with
     |some y=>.ok y (M.set k h.dropLast)
     |none=>.bad
   |none=>.bad
 |_=>.bad
end LD
namespace LD
open PySem
section
variable{prog:PH}{w:PC}{A:Qx}{E:OX->O0->Prop}{s:O0}
abbrev TK (prog:PH)(w:PC)(h:Heap)(ks:List Int)(a:Addr):Prop:=IsTupleKey (intKind prog w) h ks a
inductive hR (prog:PH) (w:PC) (h:Heap):List (List Int)->List OX->Prop
 |nil:hR prog w h [] []
 |cons {ks:List Int}{a:Addr}{kss:List (List Int)}{vs:List OX}:TK prog w h ks a->hR prog w h kss vs->hR prog w h (ks::kss) (.ref a::vs)
def NK (prog:PH)(w:PC)(h:Heap)(j:List (List Int))(a:Addr):Prop:=∃o items n,h.get? a=some o/\o.cls=.type "tuple"/\o.data=.seq items n/\hR prog w h j items.toList
def hR.inj:∀{x y:List (List Int)}{vs:List OX},hR prog w h x vs->hR prog w h y vs->x=y
 |_,_,_,.nil,.nil=>rfl
 |_,_,_,.cons a r,.cons b t=>by rw[a.inj b,hR.inj r t]
def NK.typeIs (x:NK prog w s.heap kss a):s.TypeIs (.ref a) "tuple":=let{o,_,_,ho,h,_}:=x;⟨o,ho,h⟩
def NK.inj (z:NK prog w h x a)(B:NK prog w h y a):x=y:=by
 obtain⟨o,i,n,h1,_,h2,h3⟩:=z;obtain⟨I,F,H,j,_,u,v⟩:=B;rw[h1] at j;cases j;rw[h2] at u;cases u;exact h3.inj v
def hR.keeps (ho:h.get? d=some o)(hd:o.data=.dict es ep)(hs:QE d h h'):∀{j:List (List Int)}{vs:List OX},hR prog w h j vs->hR prog w h' j vs
 |_,_,.nil=>.nil
 |_,_,.cons a r=>.cons (a.keeps ho hd hs) (hR.keeps ho hd hs r)
def NK.keeps (x:NK prog w h kss a)(ho:h.get? d=some o)(hd:o.data=.dict es ep)(hs:QE d h h'):NK prog w h' kss a:=by
 obtain⟨u,i,n,h1,h2,h3,h4⟩:=x;refine{u,i,n,(hs.2 a λz=>?_).trans h1,h2,h3,h4.keeps ho hd hs};rw[z,ho] at h1;cases h1;rw[hd] at h3;cases h3
noncomputable def tm (prog:PH)(w:PC)(h:List (List Int)):Int:=reduceHash (Builtin.Tuple.tupleHashOf (h.map (tupleKeyHash (intKind prog w))))
noncomputable def mD (h:List (List Int)):Nat:=(h.map λks=>ks.length+1).sum+1
def FD (J:A.units+2<cLine)(hk:NK prog w s.heap kss a)(h:Q (tm prog w kss) {s with toks:=s.toks+mD kss}):wpAny (model prog w) A (pyHash (.ref a)) Q E s:=by
 have y:=hk.typeIs;obtain⟨o,items,n,ho,_,hd,H⟩:=hk;first|unfold pyHashByItsType|skip
 first|refine tqa (wpAny_cRoomFor_or (.inr `a) ?_)|skip
 refine tqa (wpAny_specialOf y F.slot_tuple_hash.lookup ?_);rw[if_neg (by rw[beq_builtin_none];exact Pq)]
 refine tqa (wpAny_specialOf y F.slot_tuple_hash.lookup ?_);refine tqa (wpAny_callSpecialIfBoundUnlessNone?_slot y F.slot_tuple_hash (wpAny_call_entry F.slot_tuple_hash y F.entry_tuple_hash ?_ (F.args_tuple_hash_1 _)));show wpAny _ _ (Builtin.Tuple.tupleItemsOf (.ref a) >>= _) _ _ s;refine tqa (wpAny_tupleItemsOf ho hd ?_);refine tqa ?_;rw[<- Array.forIn_toList];refine wpAny_forIn_list _ (λrest (b:Array Int) B=>∃done left,kss=done++left/\hR prog w s.heap left rest/\b.toList=done.map (tupleKeyHash (intKind prog w))/\B={s with toks:=s.toks+(done.map λks=>ks.length+1).sum}) _ ?_ ?_ _ _ {[],kss,rfl,H,rfl,rfl}
 ·rintro x rest b B ⟨done,left,rfl,hl,z,rfl⟩;cases hl with
  | @cons k c u _ h1 j =>
    refine tqa (wpAny_pyHash_tuple ?_ h1 ?_)
    ·show A.units+1<cLine;omega
    ·first
      |exact tqb {done++[k],u,`s,j,by simp[z],by simp[QW]}
      |exact tqa (tqb (tqb {done++[k],u,`s,j,by simp[z],by simp[QW]}))
 ·rintro b B ⟨done,left,rfl,hl,z,rfl⟩;cases hl;rw[Qr] at h;show wpAny _ _ (retInt (Builtin.Tuple.tupleHashOf b.toList)) _ _ _;rw[z];refine wpAny_ret_mkInt ?_;generalize I:Builtin.Tuple.tupleHashOf (done.map (tupleKeyHash (intKind prog w)))=v;show wpAny _ _ (if (decide (-(2:Int)^63<=v)&&decide (v<2^63))=true then _ else _) Q E _;unfold tm reduceHash at h;rw[I] at h;by_cases hr:(decide (-(2:Int)^63<=v)&&decide (v<2^63))=true
  ·rw[if_pos hr];rw[if_pos hr] at h;exact tqb (by simpa[mD,QW] using h)
  ·rw[if_neg hr];rw[if_neg hr] at h;exact tqa (wpAny_rule (tqb (by simpa[mD,QW] using h)))
def wN (hu:A.units<cLine)(hx:NK prog w s.heap x a)(hy:NK prog w s.heap y b)(h:P (.done (.ret (.bool (decide (x=y))))) s) :
 wpAny (model prog w) A (Builtin.«tuple.__eq__» {[.ref a,.ref b],[]}) P E s:=by
 have Q:=hy.typeIs;obtain⟨oa,xs,na,X,_,R,U⟩:=hx;obtain⟨ob,ys,nb,Y,_,S,W⟩:=hy;show wpAny _ _ (isInstance (.ref b) (.type "tuple") >>= _) _ _ s;refine tqa (wpAny_isInstance Q isSubtype_tuple_tuple ?_);refine tqa (wpAny_tupleItemsOf X R (tqa (wpAny_tupleItemsOf Y S (tqa ?_))));refine wpAny_forIn_list _ (λrest r L=>r.1=none/\L=s/\∃M O z B,rest=List.zip z B/\hR prog w s.heap M z/\hR prog w s.heap O B/\decide (M=O)=decide (x=y)/\(z.length==B.length)=(xs.size==ys.size)) _ ?_ ?_ _ _ {rfl,rfl,x,y,xs.toList,ys.toList,rfl,U,W,rfl,`s}
 ·rintro⟨u,v⟩ rest r L ⟨hr,rfl,M,O,z,B,J,I,H,j,F⟩;cases I with
  |nil=>simp at J
  | @cons k1 u' x2 xs2 h1 hx2 =>
    cases H with
    |nil=>simp at J
    | @cons k2 v' y2 ys2 h2 hy2 =>
      obtain⟨⟨rfl,rfl⟩,rfl⟩:=J;refine tqa (wpAny_eqBool_tuple hu h1 h2 ?_);by_cases hk:k1=k2
      ·subst hk;rw[decide_eq_true rfl];refine tqb {rfl,rfl,x2,y2,xs2,ys2,rfl,hx2,hy2,?_,by simpa using F}
       rw[<- j];by_cases hxy:x2=y2<;>simp[hxy]
      ·rw[decide_eq_false hk];rw[show decide (x=y)=false by rw[<- j];simp[hk]] at h
       exact tqa (tqb (tqb (tqb h)))
 ·rintro⟨r1,r2⟩ L ⟨hr,rfl,M,O,z,B,J,I,H,j,F⟩;subst hr;refine tqb ?_;show P (.done (.ret (.bool (xs.size==ys.size)))) L;rw[<- F,show(z.length==B.length)=decide (x=y) from ?_]
  ·exact h
  ·rw[<- j];cases I with
   |nil=>cases H<;>simp
   | cons _ _ => cases H with
     |nil=>simp
     |cons _ _=>simp at J
def Lq (z:A.units+2<cLine)(u:NK prog w s.heap x a)(v:NK prog w s.heap y b)(h:Q (decide (x=y)) s):wpAny (model prog w) A (eqBool (.ref a) (.ref b)) Q E s:=by
 unfold eqBool;try with_reducible refine tqo ?_
 by_cases j:(Value.ref a==Value.ref b)=true
 ·rw[if_pos j];obtain rfl:a=b:=by have:=eq_of_beq j;injection this
  obtain rfl:=u.inj v;exact tqa (wpAny_rule (tqb (by simpa using h)))
 ·rw[if_neg j];refine tqa (wpAny_richCompare_same_room u.typeIs v.typeIs F.slot_tuple_eq (wpAny_call_entry F.slot_tuple_eq u.typeIs F.entry_tuple_eq (wN ?_ u v {_,rfl,(λe=>nomatch e),tqp h}) (F.args_tuple_eq_2 _ _)) `a)
  show A.units+1<cLine;omega
def AW (d:Nat)(hk:TK prog w s.heap ks a)(h:Q true s):wpAny (model prog w) A (eqIsQuiet (d+1) (.ref a)) Q E s:=by
 have B:=hk.typeIs;obtain⟨o,items,n,ho,_,hd,H⟩:=hk;unfold eqIsQuiet;refine tqa (wpAny_specialOf B F.slot_tuple_eq.lookup ?_);refine tqa (wpAny_isInstance B isSubtype_tuple_tuple ?_);refine tqa (wpAny_seqItems ho hd (tqa ?_));rw[<- Array.forIn_toList];refine wpAny_forIn_list _ (λrest r z=>r.1=none/\z=s/\∀v∈rest,carriedByValue v=true) _ ?_ ?_ _ _ ⟨rfl,rfl,H.byValue⟩
 ·rintro v rest r z ⟨hr,rfl,j⟩;rw[eqIsQuiet_byValue _ (j v Pm)];refine tqa (tqb ?_);exact tqb {rfl,rfl,λu y=>j u (O6 _ y)}
 ·rintro⟨r1,r2⟩ z ⟨hr,rfl,_⟩;subst hr;exact tqb h
def By (hk:NK prog w s.heap kss a)(h:Q true s):wpAny (model prog w) A (eqIsQuiet 8 (.ref a)) Q E s:=by
 have z:=hk.typeIs;obtain⟨o,items,n,ho,_,hd,B⟩:=hk;unfold eqIsQuiet;refine tqa (wpAny_specialOf z F.slot_tuple_eq.lookup ?_);refine tqa (wpAny_isInstance z isSubtype_tuple_tuple ?_);refine tqa (wpAny_seqItems ho hd (tqa ?_));rw[<- Array.forIn_toList];refine wpAny_forIn_list _ (λrest r y=>r.1=none/\y=s/\∃ks,hR prog w s.heap ks rest) _ ?_ ?_ _ _ ⟨rfl,rfl,kss,B⟩
 ·rintro v rest r y ⟨hr,rfl,ks,hl⟩;cases hl with
  | @cons k c u _ h1 j =>
    refine tqa (AW 6 h1 ?_);exact tqb ⟨rfl,rfl,u,j⟩
 ·rintro⟨r1,r2⟩ y ⟨hr,rfl,_⟩;subst hr;exact tqb h
end
def IJ (prog:PH)(w:PC):HeapKind prog w (List (List Int)) where
 is:=NK prog w
 hash:=tm prog w
 draws:=mD
 room:=λA=>A.units+2<cLine
 inj:=λu v=>u.inj v
 keeps:=λx ho hd hs=>x.keeps ho hd hs
 pyHash:=λj hk h=>FD j hk h
 eqBool:=λj u v h=>Lq j u v h
 quiet:=λhk h=>By hk h
end LD
namespace LD
open PySem PySem.Spec PyProof.Rows
section
variable{prog:PH}{w:PC}{K:Type}[DecidableEq K]{knd:HeapKind prog w K}{A:Qx}{E:OX->O0->Prop}{s:O0}
def iB (knd:HeapKind prog w K)(h:Heap)(d:Addr)(xs:List (K×Addr×OX)):Prop:=
 ∃o j,h.get? d=some o/\o.ExactDict/\o.data=.dict j xs.length/\j.toList=xs.map (entryOfKey knd)/\(∀x∈xs,knd.is h x.1 x.2.1)/\(xs.map (·.1)).Nodup
def iB.of (x:iB knd h d xs):h.DictOfH knd d xs:=let⟨o,j,r⟩:=x;{o,j,_,r}
def kF (O:knd.room A)(h:knd.is s.heap k a)(hm:iB knd s.heap d xs)
 (J:∀I,iB knd I d (storedH xs k a v)->QE d s.heap I->Q () {s with heap:=I,toks:=s.toks+knd.draws k})
 (hsz:xs.length<=sizeLine) :
 wpAny (model prog w) A (dictSet d (.ref a) v) Q E s:=by
 obtain⟨o,P,ho,L,hd,he,z,hn⟩:=hm;unfold dictSet;try with_reducible refine tqo ?_
 refine tqa (knd.pyHash O h ?_);unfold dictSetHashed;try with_reducible refine tqo ?_
 refine tqa (wpAny_dictFind_heap O h ho hd he z hn ?_ ?_)
 ·intro B;have F:=not_mem_keys_of_get B;have e:=storedH_new (atKey_none_of_get B);refine tqa (wpAny_rule (wpAny_updateDictKeys (hz:=by have e:=size_of_entries he;omega) ho hd (J _ {_,_,QG _ ho (Obj.isFreed_of_dict (Obj.data_mapDictKeys hd _)),
   L.mapDictKeys _,(Obj.data_mapDictKeys hd _).trans (by rw[e,O9];rfl),?_,?_,?_} (QF ..))))
  ·rw[e];simp[he,entryOfKey]
  ·rw[e];intro x u;rcases PL.mp u with u|u
   ·exact knd.keeps (z x u) ho hd (QF ..)
   ·simp only[Pr] at u;subst u;exact knd.keeps h ho hd (QF ..)
  ·rw[e];rw[Pn,List.nodup_append];refine{hn,`s,?_}
   intro x u y H;simp only[PV,List.map_nil,Pr] at H;subst H;exact λe=>F (e ▸ u)
 ·intro j p M;have e:=storedH_old (atKey_of_get hn M);refine tqa (wpAny_rule (tqa (wpAny_updateDict ho hd (wpAny_point (J _ {_,_,QG _ ho (Obj.isFreed_of_dict (Obj.data_mapDict hd _)),
   L.mapDict _,(Obj.data_mapDict hd _).trans (by rw[e,OY]),?_,?_,?_} (QF ..))))))
  ·rw[e];have:=modify_map_putAt (entryOfKey knd) (λe:QN=>{e with val:=v}) k v (λ_ _=>rfl) hn M
   rw[<- he] at this;obtain⟨l⟩:=P;simpa using this
  ·rw[e];intro x u;obtain⟨y,H,rfl⟩:=Pf.mp u;unfold putAt;split<;>exact knd.keeps (z y H) ho hd (QF ..)
  ·rw[e];rw[keys_map_putAt];exact hn
def wF (F:knd.room A.in1)(j:knd.is s.heap k a)(hm:iB knd s.heap d xs)
 (B:∀h,iB knd h d (storedH xs k a v)->QE d s.heap h->Q () {s with heap:=h,toks:=s.toks+knd.draws k})
 (hsz:xs.length<=sizeLine) :
 wpAny (model prog w) A (setItem (.ref d) (.ref a) v) Q E s:=by
 have u:=hm.of.typeIs;unfold setItem;try with_reducible refine tqo ?_
 refine tqa (wpAny_sequenceKey u `d ?_)
 refine tqa (wpAny_callSpecial?_slot u slot_dict_setitem
  (wpAny_call_entry slot_dict_setitem u entry_dict_setitem ?_ (args_dict_setitem _ _ _)))
 refine tqa (wpAny_notOrdered_dict u ?_);show wpAny _ _ (dictSet d (.ref a) v >>= _) _ _ s;exact tqa (kF (hsz:=hsz) F j hm λh y z=>tqb {.none,rfl,tqb (B h y z)})
end
end LD
namespace LD
open PySem PySem.Spec PyProof.Rows L2
def FZ {K:OU}(h:PySem.W.exmAny K c [d,d]=some true):PySem.W.exmOne K c d=some true:=by
 obtain⟨u,d1,e1,e2,v⟩:=PySem.W.exmAny_cons h;obtain⟨B,E,j,y,z⟩:=PySem.W.exmAny_cons e2;rw[e1] at j;cases j;cases y;cases u with
 |true=>exact e1
 |false=>subst z;cases v
section
variable{fa:Fa}{X:Cx}{pos np hp:Pos}{x1:Str}{k1:Nat}{body suite:List Stmt}{b0:Stmt}{gB gH:GS}
set_option tactic.hygienic true in
def Bf (h2:wc fa X.K X.mg x1 x1 k1 k1)(hex:X.ex=[])(L:X.stack=X.env::X.outer)(hfr:X.env.frame=some X.env.locals)
 (hg:Gl X x1) (hdb:(x1==("__debug__":Str))=false) (S:∀pn E,j7 fa (rW X pn E) body gB) (hh:∀v E,j7 fa (rX X v E) (b0::suite) gH) :
 DS fa X (.Try body [.ExceptHandler (some (.Name x1 np)) none (b0::suite) hp] [] [] pos) (lC gB k1 k1 gH):=by
 intro J s σ H D' I ⟨μ,Z,M,hE,hM,h⟩;obtain⟨D1,D2,m1,m2,hm⟩:=h2;obtain rfl:D1=D2:=by rw[m1] at m2;cases m2;rfl
 obtain⟨fl,M1,e,q⟩:=ax h;refine wpAny_Try_except (wpAny_mono (S (X.pn++J) (λe s₁=>wpAny (model X.prog X.w) X.A (noteFrame e X.env) (λ_ s₂=>wpAny (model X.prog X.w) X.A (setFlight e none) (λ_ s₃=>wpAny (model X.prog X.w) X.A (handleBy e X.env [.ExceptHandler (some (.Name x1 np)) none (b0::suite) hp]) (SP X J D') X.xe s₃) X.xe s₂) X.xe s₁) [] s σ H D' (zJ I _) {μ,Z,M,hE,hM,?_}) (λf s1 z=>?_) λ_ _ z=>z)
 ·rw[e];cases fl with
  |next ρ'=>exact q
  |ret d=>exact q
  | exc y ρ1 =>
    intro pins' σ' H' μ' s' a C dx c p Q ye hE1 hM1 ey hcC hn fl;refine vq (by rw[<- L];exact Q.ok.frames) (by rw[<- L];exact Q.stack) hfr fl (λb z=>(tQ Q hex (Heap.get?_none_of_le z)).1) Q.hok (by rw[<- L];exact Q.stkFree) λh' ch P u hok R=>?_
    have O:=BR (gZ Q) (λb S=>{(P b S).1.1,(P b S).2.2,(P b S).1.2}) (by rw[L];exact u) hok
    obtain⟨nw,ha,o,vs,h1,h2,h3,h4,tr⟩:=id R;have Y:PySem.W.notCls o=true:=by unfold PySem.W.notCls;rw[h4]
    subst ey;have U:c=k1\/c=k1:=by
     by_cases z:c=k1\/c=k1
     ·exact z
     ·unfold lr at q;dsimp only at q;rw[if_neg z] at q;exact q.elim
    unfold lr at q;dsimp only at q;rw[if_pos U] at q;obtain⟨fl3,M2,e3,q3⟩:=ax q;have IA:∃od,PySem.W.InstAt h' a o C od:=by
     cases p with
     | none =>
       exact{none,h1,h2,Y,by rw[h3,hn];trivial}
     | some k =>
       obtain⟨d,rfl,hd⟩:=hn;obtain⟨mA,⟨od,es,ep,ed,_⟩,_⟩:=hok d _ hd;exact{some od,h1,h2,Y,by rw[h3];exact ed}
    obtain⟨od,IA⟩:=IA;refine wpAny_handleBy_cons (codeAny_handlers_test (gy (qP O (.ref a) X.xe) hg m1 ?_ hdb)) (by intro z;cases z)
    refine(PySem.W.exm_one O.kIn IA.type (FZ (hm c C U hcC))).at ?_;refine codeAny_handlers_suite (xj R ?_);refine wpAny_mono (hh (.ref a) _ J _ σ' H' D' (qP O (.ref a) _) {μ',_,M1,hE1,hM1,?_}) (λf s5 z=>?_) λ_ _ z=>z
    ·rw[e3];cases fl3 with
     |next ρ2=>exact λσ2 H2 μ2 x2 hE2 hM2=>q3 σ2 H2 μ2 (ye.trans x2) hE2 hM2
     |ret d=>exact aZ.ext q3 ye
     |exc=>exact q3.elim
    ·dsimp only;cases f with
     | next =>
       obtain⟨j,B,F,z⟩:=z;exact{_,B,js O.ok.hd F,z}
     | ret u =>
       obtain⟨v,j,B,F,r5,z⟩:=z;exact{v,_,B,js O.ok.hd F,r5,z}
     |brk=>obtain⟨_,B,F,z⟩:=z;exact{_,B,js O.ok.hd F,z}
     |cont=>obtain⟨_,B,F,z⟩:=z;exact{_,B,js O.ok.hd F,z}
 ·cases f with
  |next=>obtain⟨j,B,F,z⟩:=z;exact wpAny_execs_nil {j,B,gZ F,z}
  |ret u=>obtain⟨v,j,B,F,r5,z⟩:=z;exact{v,j,B,gZ F,r5,z}
  |brk=>obtain⟨j,B,F,z⟩:=z;exact{j,B,gZ F,z}
  |cont=>obtain⟨j,B,F,z⟩:=z;exact{j,B,gZ F,z}
end
def jM (c:GT)(b:GS):Nat->Env->Mem->Res Fl
 |0,_,_=>.bad
 | n + 1, h, M => (c h M).bind λk M => if k then(b h M).bind λfl M => (match fl with
   |.next h=>jM c b n h M
   |fl=>.ok fl M) else .ok (.next h) M
def gU (c:GT)(b:GS):GS:=λh M=>jM c b 100000 h M
section
variable{fa:Fa}{X:Cx}{c:Expr}{body:List Stmt}{gc:GT}{gb:GS}{pos:Pos}
set_option tactic.hygienic true in
def E6 (hp:PassesOwn (model X.prog X.w) X.A X.env X.xe)(hc:DT fa X c gc)(hb:j7 fa X body gb):DS fa X (.While c body [] pos) (gU gc gb):=
 cM (Bo hp hc hb) λD' σ H ⟨L,Z,M,hE,hM,h⟩=>by
  refine{λm v y=>∃j u B,Ext L H j y/\bb fa X.K j y v u/\RelM fa X.K j y B/\ae (jM gc gb m u B) (j6 fa X L H D'),{100000,L,Z,M,.refl,hE,hM,h},?_};rintro m σ2 H2 ⟨μ2,P,M2,R,E,U,q2⟩;cases m with
  |zero=>exact q2.elim
  | succ m =>
    obtain⟨k,M3,e3,q3⟩:=ax q2;refine{μ2,P,M2,E,U,?_};rw[e3];intro H3 O J I;have F:=E.ext J;cases k with
    |false=>exact q3 σ2 H3 O (R.trans J) F I
    | true =>
      obtain⟨fl,M4,e4,Y⟩:=ax q3;refine{λv y=>∃j u B,Ext L H j y/\bb fa X.K j y v u/\RelM fa X.K j y B/\ae (jM gc gb m u B) (j6 fa X L H D'),λv y z=>{m,Nat.lt_succ_self m,z},O,P,M3,F,I,?_};rw[e4];cases fl with
      |next Q=>exact λσ6 H6 μ6 x6 S W=>{μ6,Q,M4,(R.trans J).trans x6,S,W,Y}
      |ret d6=>exact aZ.ext Y (R.trans J)
      |exc x6 Q=>exact XW.ext Y (R.trans J)
end
def vN {K:OU}:∀{ds:List D}{vs:List V}{us:List OX}{ks:List Int},aB fa K μ H ds vs->Vals vs us->intsOf ds=some ks->ItemsAre (intKind prog w) ks us
 | [], vs, us, ks, h, r, e => by
   obtain rfl:vs=[]:=h;cases r;cases e;exact .nil
 | .int i :: ds, vs, us, ks, h, r, e => by
   obtain⟨v,vr,rfl,p,q⟩:=h;cases r with
   | cons r1 r2 =>
     obtain⟨k,j,e⟩:=O8.mp e;subst e;obtain rfl:v=.int i:=p;obtain⟨t,rfl⟩:=r1;exact .cons (by simp[intKind,Value.isInt]) (vN q r2 j)
 |.non::_,_,_,_,_,_,e=>by cases e
 |.bl _::_,_,_,_,_,_,e=>by cases e
 |.str _::_,_,_,_,_,_,e=>by cases e
 |.tup _::_,_,_,_,_,_,e=>by cases e
 |.lst _::_,_,_,_,_,_,e=>by cases e
 |.frz _::_,_,_,_,_,_,e=>by cases e
 |.cell _::_,_,_,_,_,_,e=>by cases e
 |.fn _::_,_,_,_,_,_,e=>by cases e
 |.exc _ _::_,_,_,_,_,_,e=>by cases e
section
variable{fa:Fa}{X:Cx}{pins:List (Addr×Obj)}{σ:L2.St}{H:Hp}{s:O0}{μ:Mu}
def yk (I:Inv X pins σ H s)(r:Rep fa X.K μ H (.tup ds) (.ref b)):∃vs h o n,aB fa X.K μ H ds vs/\Vals vs h/\s.heap.get? b=some o/\o.cls=.type "tuple"/\o.data=.seq h.toArray n:=by
 obtain⟨a,vs,e,j,u⟩:=r;cases e;obtain⟨h,v,p,_⟩:=I.tuple j;obtain⟨o,h1,h2,n,h3⟩:=p;exact⟨vs,h,o,n,u,v,h1,h2,h3⟩
def vL (I:Inv X pins σ H s)(r:Rep fa X.K μ H d (.ref b))(e:lO d=some ks):TK X.prog X.w s.heap ks b:=by
 cases d with
 | tup v =>
   obtain⟨y,h,o,n,j,u,h1,h2,h3⟩:=yk I r;exact{o,h.toArray,n,h1,h2,h3,by simpa using vN j u e}
 |_=>cases e
def tK (I:Inv X pins σ H s):∀{ds:List D}{vs:List V}{us:List OX}{j:List (List Int)},aB fa X.K μ H ds vs->Vals vs us->jo ds=some j->hR X.prog X.w s.heap j us
 | [], vs, us, j, h, r, e => by
   obtain rfl:vs=[]:=h;cases r;cases e;exact .nil
 | d :: ds, vs, us, j, h, r, e => by
   obtain⟨v,vr,rfl,p,q⟩:=h;cases r with
   | cons r1 r2 =>
     obtain⟨k,y,e⟩:=PB.mp e;obtain⟨E,u,e⟩:=O8.mp e;subst e;cases d with
     | tup z =>
       obtain⟨a,J,rfl,B,F⟩:=id p;obtain rfl:=(r1);exact .cons (vL I p y) (tK I q r2 u)
     |_=>cases y
def FR (I:Inv X pins σ H s)(r:Rep fa X.K μ H d (.ref b))(e:pZ d=some kss):NK X.prog X.w s.heap kss b:=by
 cases d with
 | tup v =>
   obtain⟨y,h,o,n,j,u,h1,h2,h3⟩:=yk I r;exact{o,h.toArray,n,h1,h2,h3,by simpa using tK I j u e}
 |_=>cases e
end
def tS:∀{a b:List D}{x y:List Int},intsOf a=some x->intsOf b=some y->dB a b=decide (x=y)/\(x=y->a=b)
 |[],[],_,_,e,f=>by cases e;cases f;exact{rfl,λ_=>rfl}
 | [], .int j :: b, _, _, e, f => by
   obtain⟨_,_,rfl⟩:=O8.mp f;cases e;exact{by simp[dB],λz=>by cases z}
 | .int i :: a, [], _, _, e, f => by
   obtain⟨_,_,rfl⟩:=O8.mp e;cases f;exact{by simp[dB],λz=>by cases z}
 | .int i :: a, .int j :: b, _, _, e, f => by
   obtain⟨x,e1,rfl⟩:=O8.mp e;obtain⟨y,f1,rfl⟩:=O8.mp f;obtain⟨h1,h2⟩:=tS e1 f1;refine{?_,λz=>?_}
   ·show(i==j&&dB a b)=_;rw[h1];by_cases z:i=j<;>simp[z]
   ·cases z;rw[h2 rfl]
 |.non::_,_,_,_,e,_=>by cases e
 |.bl _::_,_,_,_,e,_=>by cases e
 |.str _::_,_,_,_,e,_=>by cases e
 |.tup _::_,_,_,_,e,_=>by cases e
 |.lst _::_,_,_,_,e,_=>by cases e
 |.frz _::_,_,_,_,e,_=>by cases e
 |.cell _::_,_,_,_,e,_=>by cases e
 |.fn _::_,_,_,_,e,_=>by cases e
 |.exc _ _::_,_,_,_,e,_=>by cases e
 |_,.non::_,_,_,_,e=>by cases e
 |_,.bl _::_,_,_,_,e=>by cases e
 |_,.str _::_,_,_,_,e=>by cases e
 |_,.tup _::_,_,_,_,e=>by cases e
 |_,.lst _::_,_,_,_,e=>by cases e
 |_,.frz _::_,_,_,_,e=>by cases e
 |_,.cell _::_,_,_,_,e=>by cases e
 |_,.fn _::_,_,_,_,e=>by cases e
 |_,.exc _ _::_,_,_,_,e=>by cases e
def nN (e:lO d=some x):∃ds,d=.tup ds/\intsOf ds=some x:=by
 cases d with
 |tup ds=>exact⟨ds,rfl,e⟩
 |_=>cases e
def tM (e:lO a=some x)(f:lO b=some y):bW a b=decide (x=y)/\(x=y->a=b):=by
 obtain⟨h,rfl,e⟩:=nN e;obtain⟨bs,rfl,f⟩:=nN f;obtain⟨h1,h2⟩:=tS e f;exact{h1,λz=>by rw[h2 z]}
def qN:∀{a b:List D}{x y:List (List Int)},jo a=some x->jo b=some y->dB a b=decide (x=y)/\(x=y->a=b)
 |[],[],_,_,e,f=>by cases e;cases f;exact{rfl,λ_=>rfl}
 | [], d :: b, _, _, e, f => by
   obtain⟨_,_,f⟩:=PB.mp f;obtain⟨_,_,rfl⟩:=O8.mp f;cases e;exact{by simp[dB],λz=>by cases z}
 | d :: a, [], _, _, e, f => by
   obtain⟨_,_,e⟩:=PB.mp e;obtain⟨_,_,rfl⟩:=O8.mp e;cases f;exact{by simp[dB],λz=>by cases z}
 | d :: a, j :: b, _, _, e, f => by
   obtain⟨k,u,e⟩:=PB.mp e;obtain⟨x,e1,rfl⟩:=O8.mp e;obtain⟨E,h,f⟩:=PB.mp f;obtain⟨y,f1,rfl⟩:=O8.mp f;obtain⟨v,B⟩:=tM u h;obtain⟨h1,h2⟩:=qN e1 f1;refine{?_,λz=>?_}
   ·show(bW d j&&dB a b)=_;rw[h1,v];by_cases z:k=E<;>simp[z]
   ·cases z;rw[h2 rfl,B rfl]
def BL (e:pZ a=some x)(f:pZ b=some y):bW a b=decide (x=y)/\(x=y->a=b):=by
 cases a with
 | tup h =>
   cases b with
   | tup bs =>
     obtain⟨h1,h2⟩:=qN e f;exact{h1,λz=>by rw[h2 z]}
   |_=>cases f
 |_=>cases e
structure KD (X:Cx) (c:Int) where
 K:Type
 dq:DecidableEq K
 knd:HeapKind X.prog X.w K
 dec:D->Option K
 hash:∀d,mE c d=(dec d).map knd.hash
 is:∀{fa:Fa}{μ:Mu}{H:Hp}{pins:List (Addr×Obj)}{σ:L2.St}{s:O0}{d:D}{b:Addr}{k:K},Inv X pins σ H s->Rep fa X.K μ H d (.ref b)->dec d=some k->knd.is s.heap k b
 beq:∀{a b:D}{x y:K},dec a=some x->dec b=some y->bW a b=decide (x=y)/\(x=y->a=b)
 ref:∀{fa:Fa}{μ:Mu}{H:Hp}{d:D}{v:V}{k:K},Rep fa X.K μ H d v->dec d=some k->∃b,v=.ref b
 room:Rm X->knd.room X.A.in1
 room0:Rm X->knd.room X.A
def KD.f (X:Cx):KD X 77 where
 K:=List Int
 dq:=inferInstance
 knd:=tupleKind (intKind X.prog X.w)
 dec:=lO
 hash:=λd=>by unfold mE;rw[if_pos rfl];rfl
 is:=λI r e=>vL I r e
 beq:=λe f=>tM e f
 ref:=λr e=>by
  obtain⟨j,rfl,_⟩:=nN e;obtain⟨a,_,rfl,_⟩:=r;exact⟨a,rfl⟩
 room:=λh=>by show X.A.units+1<cLine;unfold Rm at h;omega
 room0:=λh=>by show X.A.units<cLine;unfold Rm at h;omega
def KD.n (X:Cx):KD X 78 where
 K:=List (List Int)
 dq:=inferInstance
 knd:=IJ X.prog X.w
 dec:=pZ
 hash:=λd=>by unfold mE;rw[if_neg `d,if_pos rfl];rfl
 is:=λI r e=>FR I r e
 beq:=λe f=>BL e f
 ref:=λ{fa μ H d v k} r e=>by
  cases d with
  | tup j =>
    obtain⟨a,_,rfl,_⟩:=r;exact⟨a,rfl⟩
  |_=>cases e
 room:=λh=>by show X.A.units+1+2<cLine;unfold Rm at h;omega
 room0:=λh=>by show X.A.units+2<cLine;unfold Rm at h;omega
noncomputable instance kdq {X:Cx}{c:Int} (kd:KD X c):DecidableEq kd.K:=kd.dq
noncomputable def la (p:D×D):D:=.tup [p.1,p.2]
section
variable{fa:Fa}{X:Cx}{pins:List (Addr×Obj)}{σ:L2.St}{H:Hp}{s:O0}{μ:Mu}{c:Int}{kd:KD X c}{kvs:List (D×D)}
abbrev DP (fa:Fa)(X:Cx)(μ:Mu)(H:Hp){c:Int}(kd:KD X c):List (D×D)->List (kd.K×Addr×OX)->Prop:=QT λp x=>kd.dec p.1=some x.1/\Rep fa X.K μ H p.1 (.ref x.2.1)/\∃v,RelV v x.2.2/\Rep fa X.K μ H p.2 v
def KD.xs (kd:KD X c):∀{kvs:List (D×D)}{es:List QN},QT (Co fa X.K μ H c) kvs es->∃xs,es=xs.map (entryOfKey kd.knd)/\DP fa X μ H kd kvs xs
 |_,_,.nil=>{[],rfl,.nil}
 | _, _, .cons ⟨b, v, e1, e2, h, j, u⟩ r => by
   obtain⟨xs,rfl,q⟩:=KD.xs kd r;rw[kd.hash] at e2;obtain⟨k,z,y⟩:=O8.mp e2;refine{(k,b,_)::xs,?_,.cons ⟨z,h,v,j,u⟩ q};rw[PV]
   congr 1
   unfold entryOfKey;rw[y,<- e1]
def KD.back {xs:List (kd.K×Addr×OX)}:∀{kvs:List (D×D)},DP fa X μ H kd kvs xs->QT (Co fa X.K μ H c) kvs (xs.map (entryOfKey kd.knd)):=by
 intro kvs h;induction h with
 |nil=>exact .nil
 |cons r _ j=>exact .cons (let⟨h1,h2,v,h3,h4⟩:=r;{_,v,rfl,by rw[kd.hash,h1];rfl,h2,h3,h4}) j
def DP.mem (h:DP fa X μ H kd kvs xs)(m:x∈xs):∃p∈kvs,kd.dec p.1=some x.1/\Rep fa X.K μ H p.1 (.ref x.2.1):=by
 induction h with
 |nil=>cases m
 | cons r _ u =>
   rcases PJ.mp m with rfl|m
   ·exact{_,Pm,r.1,r.2.1}
   ·obtain⟨p,j,q⟩:=u m;exact{p,O6 _ j,q}
def DP.nodup (h:DP fa X μ H kd kvs xs)(n:(kvs.map (·.1)).Nodup):(xs.map (·.1)).Nodup:=by
 induction h with
 |nil=>exact List.nodup_nil
 | @cons p x ps B r t u =>
   rw[PV,Qo] at n ⊢;refine{λm=>n.1 ?_,u n.2};obtain⟨y,z,j⟩:=Pf.mp m;obtain⟨q,v,e1,_⟩:=DP.mem t z;have:=(kd.beq r.1 e1).2 j.symm;rw[this];exact Pf.mpr ⟨q,v,rfl⟩
def KD.dict {xs:List (kd.K×Addr×OX)}(I:Inv X pins σ H s)(e:H a=some (.dn (xs.map (entryOfKey kd.knd))))(h:DP fa X μ H kd kvs xs)(n:(kvs.map (·.1)).Nodup):(a==sysModules)=false/\xs.length<=sizeLine/\iB kd.knd s.heap a xs:=by
 obtain⟨z,y,o,h1,h2,h3⟩:=(I.hok a _ e);refine{y,by simpa using z,o,_,h1,h2,by rw[h3,OY],`s,λx j=>?_,h.nodup n}
 obtain⟨p,_,e1,e2⟩:=h.mem j;exact kd.is I e2 e1
def DP.look (h:DP fa X μ H kd kvs xs)(hk:kd.dec k=some kk):(dv (kvs.map la) k=none/\atKey xs kk=none)\/∃d b v u,dv (kvs.map la) k=some d/\atKey xs kk=some (b,u)/\RelV v u/\Rep fa X.K μ H d v:=by
 induction h with
 |nil=>exact .inl ⟨rfl,rfl⟩
 | @cons p x ps y r t j =>
   obtain⟨h1,h2,v,h3,h4⟩:=r;have b:=(kd.beq h1 hk).1;unfold dv atKey at j ⊢;rw[PV,List.find?_cons,List.find?_cons];rw[show bW (xm (la p)) k=decide (x.1=kk) from b];by_cases z:x.1=kk
   ·rw[decide_eq_true z];exact .inr ⟨p.2,x.2.1,v,x.2.2,rfl,rfl,h3,h4⟩
   ·rw[decide_eq_false z];exact j
def jF (kvs:List (D×D))(k d:D):List (D×D):=if (dv (kvs.map la) k).isSome then kvs.map (λp=>if bW p.1 k then(p.1,d) else p) else kvs++[(k,d)]
def Ia (kvs:List (D×D))(k d:D):(jF kvs k d).map la=putD (kvs.map la) k d:=by
 unfold jF putD;split
 ·rw[Qi,Qi];refine QM λp _=>?_;show la (if bW p.1 k then(p.1,d) else p)=if bW p.1 k then _ else _;split<;>rfl
 ·rw[Pn];rfl
def yV (kvs:List (D×D))(k d:D):(jF kvs k d).map (·.1)=if (dv (kvs.map la) k).isSome then kvs.map (·.1) else kvs.map (·.1)++[k]:=by
 unfold jF;split
 ·rw[Qi];refine QM λp _=>?_;show(if bW p.1 k then(p.1,d) else p).1=p.1;split<;>rfl
 ·rw[Pn];rfl
set_option tactic.hygienic true in
def DP.put (h:DP fa X μ H kd kvs xs)(hk:kd.dec k=some kk)(E:Rep fa X.K μ H k (.ref b))(j:RelV v u)(rd:Rep fa X.K μ H d v):DP fa X μ H kd (jF kvs k d) (storedH xs kk b u):=by
 have e:(dv (kvs.map la) k).isSome=(atKey xs kk).isSome:=by
  rcases h.look hk with⟨h1,h2⟩|⟨_,_,_,_,h1,h2,_⟩<;>rw[h1,h2]<;>rfl
 unfold jF storedH;rw[e];split
 ·next hs=>
  clear e hs;induction h with
  |nil=>exact .nil
  | @cons p x ps F r t B =>
    refine .cons ?_ B;have y:=(kd.beq r.1 hk).1;unfold putAt;dsimp only;rw[y];by_cases z:x.1=kk
    ·rw[decide_eq_true z,if_pos z,if_pos rfl];exact⟨r.1,r.2.1,v,j,rd⟩
    ·rw[decide_eq_false z,if_neg z,if_neg Pq];exact r
 ·exact Paired.snoc h ⟨hk,E,v,j,rd⟩
set_option tactic.hygienic true in
def DP.keys (h:DP fa X μ H kd kvs xs)(n:(kvs.map (·.1)).Nodup)(hk:kd.dec k=some kk):((jF kvs k d).map (·.1)).Nodup:=by
 rw[yV];split
 ·exact n
 ·next z=>
  refine List.nodup_append.mpr {n,`s,λa u b v q=>z ?_}
  obtain rfl:=Pr.mp v;subst q;obtain⟨p,y,j⟩:=Pf.mp u;rw[dv,Q9,List.find?_isSome];refine{la p,Pf.mpr ⟨p,y,rfl⟩,?_};show bW p.1 a=true;rw[j,(kd.beq hk hk).1];exact decide_eq_true rfl
end
def iw (a b:GE):GE:=λh M=>(a h M).bind λx M=>(b h M).bind λk M=>match x with
 |.fn o=>bL M (getD M o k)
 |_=>.bad
def lV (n:Bool)(a b:GE):GE:=λh M=>(a h M).bind λk M=>(b h M).bind λx M=>match x with
 | .fn o => (match inD M o k with
   |some r=>.ok (.bl (n != r)) M
   |none=>.bad)
 |_=>.bad
def kj (a b d:GE):GS:=λh M=>(d h M).bind λz M=>(a h M).bind λx M=>(b h M).bind λk M=>match x with
 | .fn o => (match c4 M o with
   |some q=>if isKey q.1 k=true/\q.2.length<1000000 then .ok (.next h) (M.set (o-5000) (.int q.1::putD q.2 k z)) else .bad
   |none=>.bad)
 |_=>.bad
structure hU (fa:Fa):Prop where
 of:∀o,5000<=o->fa o=none
 n77:fa (fj 77)=none
 n78:fa (fj 78)=none
section
variable{fa:Fa}{K:OU}{μ:Mu}{H:Hp}{M:Mem}
def Ext.dic (h:RelM fa K μ H M)(v:H a=some (.dn es)):Ext μ H μ (upd H a (.dn es')):=by
 have ne:∀{b o},H b=some o->(∀es,o≠.dn es)->b≠a:=λg n z=>by rw[z,v] at g;cases g;exact n _ rfl
 refine{{λ_ _ q=>q,λb j g=>?_,λb j g n=>{by rw[ao (ne g (λ_ z=>by cases z))];exact g,n},λb ob u g=>by rw[ao (ne g (λ_ z=>by cases z))];exact g,λb o i g=>?_,λ_ _ q=>q},rfl,λb y=>?_}
 ·rcases g with g|⟨ob,g⟩
  ·exact .inl (by rw[ao (ne g (λ_ z=>by cases z))];exact g)
  ·exact .inr {ob,by rw[ao (ne g (λ_ z=>by cases z))];exact g}
 ·rw[ao (ne g (λ_ z=>by rcases i with⟨_,i⟩|⟨_,i⟩<;>(rw[i] at z;cases z)))];exact g
 ·obtain⟨⟨j,g⟩,_⟩:=h.pv b y;rw[ao (ne g (λ_ z=>by cases z))]
def RelM.dicW (h:RelM fa K μ H M)(e:M[k]?=some ds)(v:μ.ob (au k)=some a)(I:H a=some (.dn es))(new:jc fa K μ (upd H a (.dn es')) a y):RelM fa K μ (upd H a (.dn es')) (M.set k y):=by
 have x:Ext μ H μ (upd H a (.dn es')):=Ext.dic h I;refine{λj B q=>?_,λj u=>h.out j (by simpa using u),λj u=>h.oout j (by simpa using u),h.inj,h.oinj,h.sep,λb E=>{let{⟨F,g⟩,_}:=h.pv b E;{F,by rw[x.pk b E];exact g},(h.pv b E).2}}
 by_cases u:j=k
 ·subst u;rw[Py (OV.mp e).1] at q;cases q;refine .inr {a,v,?_,new};cases z:μ.pub j with
  |none=>rfl
  |some b=>rw[h.sep j b z] at v;cases v
 ·rw[O5 (Qk u)] at q;rcases h.at' j B q with⟨b,F,h1,h2,h3⟩|⟨b,h1,h2,h3⟩
  ·exact .inl {b,F,h1,by rw[ao (λz=>by rw[z,I] at h2;cases h2)];exact h2,h3.ext x}
  ·exact .inr {b,h1,h2,h3.extW x.toExtW (ao λz=>u (h.oinj _ _ a (z ▸ h1) v))}
set_option tactic.hygienic true in
def Ext.dicNew (h:RelM fa K μ H M)(u:H x=none):Ext μ H (eY μ M.length x) (upd H x (.dn [])):=by
 have e:Ext μ H μ (upd H x (.dn [])):=Ext.alloc h u;refine{{e.mu,e.tups,λb v g n=>{(e.lsts b v g n).1,n},e.frzs,e.exts,λj b z=>?_},rfl,e.pk};show(if j=au M.length then some x else μ.ob j)=some b;split
 ·next q=>rw[q,h.oout _ (OZ _)] at z;cases z
 ·exact z
set_option tactic.hygienic true in
def RelM.dicNew {c:Int}(h:RelM fa K μ H M)(u:H x=none)(J:c=77\/c=78):RelM fa K (eY μ M.length x) (upd H x (.dn [])) (M++[[.int c]]):=by
 have X:=Ext.dicNew h u;have old:∀{b o},H b=some o->(upd H x (.dn [])) b=some o:=λg=>by rw[ao (aO g u)];exact g
 have pc:∀{k b},(eY μ M.length x).ob (au k)=some b->(k=M.length/\b=x)\/μ.ob (au k)=some b:=λ{k b} z=>by
  have z:(if au k=au M.length then some x else μ.ob (au k))=some b:=z;split at z
  ·next q=>cases z;exact .inl {QX q,rfl}
  ·exact .inr z
 refine{λk I q=>?_,λk hk=>h.out k (by simp at hk;omega),λk hk=>?_,h.inj,λj k b e1 e2=>?_,λk b z=>?_,λb E=>{?_,(h.pv b E).2}}
 ·by_cases hk:k<M.length
  ·rw[O4 hk] at q;rcases h.at' k I q with⟨b,B,h1,h2,h3⟩|⟨b,h1,h2,h3⟩
   ·exact .inl {b,B,h1,old h2,h3.ext X}
   ·exact .inr {b,X.obs _ _ h1,h2,h3.extW X.toExtW (by obtain⟨o,e,_⟩:=h3.hold;rw[old e,e])}
  ·have y:k=M.length:=by
    have:=(OV.mp q).1;simp at this;omega
   subst y;rw[Pp (OZ _)] at q;simp at q;subst q;exact .inr {x,by show(if au M.length=au M.length then some x else _)=some x;rw[if_pos rfl],h.out _ (OZ _),.inr {c,[],[],bH,J,rfl,.nil,List.nodup_nil}}
 ·show(if au k=au M.length then some x else μ.ob (au k))=none;simp at hk;rw[if_neg (λz=>by have:=QX z;omega)]
  exact h.oout k `a
 ·rcases pc e1 with⟨a1,a2⟩|a1<;>rcases pc e2 with⟨v,F⟩|v
  ·omega
  ·subst a2;obtain⟨_,z⟩:=h.ob_ins v;rw[u] at z;cases z
  ·subst F;obtain⟨_,z⟩:=h.ob_ins a1;rw[u] at z;cases z
  ·exact h.oinj j k b a1 v
 ·show(if au k=au M.length then some x else μ.ob (au k))=none;have z:μ.pub k=some b:=z;rw[if_neg (λq=>by rw[QX q,h.out _ (OZ _)] at z;cases z)]
  exact h.sep k b z
 ·obtain⟨⟨B,g⟩,_⟩:=h.pv b E;exact{B,old g}
end
section
variable{fa:Fa}{X:Cx}{pins:List (Addr×Obj)}{σ:L2.St}{H:Hp}{s:O0}{μ:Mu}{M:Mem}
set_option tactic.hygienic true in
def nO {c:Int}(h:isKey c d=true)(kd:KD X c):∃kk,kd.dec d=some kk:=by
 have e:(mE c d).isSome=true:=by
  unfold isKey at h;unfold mE;split at h
  ·next z=>rw[if_pos z,Q9];exact h
  ·next z=>
   rw[if_neg z];split at h
   ·next y=>rw[if_pos y,Q9];exact h
   ·cases h
 rw[kd.hash,Q9] at e;exact Option.isSome_iff_exists.mp e
def Lz {c:Int}(X:Cx)(h:c=77\/c=78):Nonempty (KD X c):=by
 rcases h with rfl|rfl
 ·exact{KD.f X}
 ·exact{KD.n X}
set_option tactic.hygienic true in
def oQ (hd:hU fa)(I:Inv X pins σ H s)(L:RelM fa X.K μ H M)(r:Rep fa X.K μ H (.fn o) v)(e:c4 M o=some q) :
 ∃(a:Addr) (kd:KD X q.1) (h:List (D×D)) (xs:List (kd.K×Addr×OX)),v=.ref a/\5000<=o/\μ.ob o=some a/\M[o-5000]?=some (.int q.1::q.2)/\H a=some (.dn (xs.map (entryOfKey kd.knd)))/\(q.1=77\/q.1=78)/\q.2=h.map la/\DP fa X μ H kd h xs/\(h.map (·.1)).Nodup:=by
 unfold c4 at e;split at e
 ·next ho=>
  split at e
  ·next c Q B=>
   split at e
   ·next z=>
    cases e;obtain⟨a,rfl,j⟩:=r;rcases j with j|⟨_,j⟩
    ·rw[hd.of o ho] at j;cases j
    have E:au (o-5000)=o:=Nat.add_sub_cancel' ho;rcases L.at' _ _ B with⟨b,R,h1,_⟩|⟨b,h1,h2,⟨n,C,P,fs,y,h3,h4,F,u,J⟩|⟨O,y,h,h3,h4,F,u,J⟩⟩
    ·have:=L.sep _ _ h1;rw[E,j] at this;cases this
    ·have u:=(List.cons.inj u).1;have u:=D.int.inj u;rcases z with rfl|rfl
     ·have:n=77:=`a
      rw[this,hd.n77] at h3;cases h3
     ·have:n=78:=`a
      rw[this,hd.n78] at h3;cases h3
    ·rw[E,j] at h1;cases h1;obtain⟨e1,e2⟩:=List.cons.inj F;cases D.int.inj e1;obtain⟨kd⟩:=Lz X z;obtain⟨xs,rfl,dp⟩:=kd.xs u;exact⟨a,kd,h,xs,rfl,ho,j,B,h3,z,e2,dp,J⟩
   ·cases e
  ·cases e
 ·cases e
def rDG (fa:Fa)(K:OU):R2:=λx y H Q=>∃μ M o h d,RelM fa K μ H M/\Rep fa K μ H (.fn o) x/\Rep fa K μ H h y/\getD M o h=some d/\aZ fa K μ H Q d M
set_option tactic.hygienic true in
def DG (Y:Rm X)(hd:hU fa):jA X (rDG fa X.K):=by
 intro E B pins s σ H x y v u Q I rx ry h hs;obtain⟨μ,M,o,dy,d,P,r1,r2,e,q⟩:=h;obtain⟨qq,e1,e2⟩:=PB.mp e;split at e2
 ·next hk=>
  obtain⟨a,J,kvs,xs,rfl,ho,ha,em,W,hc,U,dp,nd⟩:=oQ hd I P r1 e1;obtain⟨kk,L⟩:=nO hk J;obtain⟨b,rfl⟩:=J.ref r2 L;obtain⟨ys,hz,O⟩:=KD.dict I W dp nd;obtain rfl:v=Value.ref a:=rx;obtain rfl:u=Value.ref b:=ry;rw[U] at e2;rcases dp.look L with⟨z,_⟩|⟨d',b',v',u',z,g,ru,rd⟩
  ·rw[z] at e2;cases e2
  ·rw[z] at e2;cases e2;have R:=O.of.typeIs;have h2:wpAny (model X.prog X.w) X.A (getItem (.ref a) (.ref b)) (EP X pins σ Q) X.xe s:=wpAny_getItem_heap (J.room Y) (J.is I r2 L) O.of g {v',H,I.tok _,ru,aP P q rd};refine tqa ?_;rw[getitemInPython_of_ne R.not_modules];refine tqa (wpAny_specialOf R PySem.F.slot_dict_getitem.lookup ?_);have j:wpAny (model X.prog X.w) X.A (subscripted B false (.ref a) (.ref b)) (λr S=>wpAny (model X.prog X.w) X.A (letTemporaryGo E (.ref a) r >>= λ_=>pure r) (EP X pins σ Q) X.xe S) X.xe s:=by
    rw[hs];exact wpAny_operating (wpAny_mono h2 (λr S h3=>tqa (wpAny_letTemporaryGo (tqb h3))) λ_ _ x=>x)
   first
    |exact tqb (tqa j)
    |exact tqa (tqb (tqa j))
    |exact tqa j
 ·cases e2
def rDI (fa:Fa)(K:OU)(n:Bool):R2:=λx y H Q=>∃μ M o h b,RelM fa K μ H M/\Rep fa K μ H h x/\Rep fa K μ H (.fn o) y/\inD M o h=some b/\Q (.bl (n != b)) H
set_option tactic.hygienic true in
def DR (F:Rm X)(hd:hU fa)(n:Bool):bz X (compareOp (if n then .NotIn else .In)) (rDI fa X.K n):=by
 intro pins s σ H x y v u Q I S U h;obtain⟨μ,M,o,L,b,R,r1,r2,e,q⟩:=h;obtain⟨qq,e1,e2⟩:=PB.mp e;split at e2
 ·next hk=>
  obtain⟨a,j,B,xs,rfl,ho,Y,W,P,hc,O,dp,nd⟩:=oQ hd I R r2 e1;obtain⟨kk,z⟩:=nO hk j;obtain⟨c,rfl⟩:=j.ref r1 z;obtain⟨J,hz,E⟩:=KD.dict I P dp nd;obtain rfl:v=Value.ref c:=S;obtain rfl:u=Value.ref a:=U;rw[O] at e2;cases e2;have eq:(dv (B.map la) L).isSome=(atKey xs kk).isSome:=by
   rcases dp.look z with⟨h1,h2⟩|⟨_,_,_,_,h1,h2,_⟩<;>rw[h1,h2]<;>rfl
  rw[eq] at q;cases n with
  |false=>exact wpAny_in_heap (j.room F) (j.is I r1 z) J E.of {.bl _,H,I.tok _,rfl,by simpa using q}
  |true=>exact wpAny_notIn_heap (j.room F) (j.is I r1 z) J E.of {.bl _,H,I.tok _,rfl,by simpa using q}
 ·cases e2
def rDS (fa:Fa)(K:OU):Ck:=λx y v H Q=>∃μ M o j d q,RelM fa K μ H M/\Rep fa K μ H (.fn o) x/\Rep fa K μ H j y/\Rep fa K μ H d v/\c4 M o=some q/\isKey q.1 j=true/\q.2.length<1000000/\∀h,Ext μ H μ h->RelM fa K μ h (M.set (o-5000) (.int q.1::putD q.2 j d))->Q h
def qf (hd:hU fa)(I:Inv X pins σ H s)(Q:RelM fa X.K μ H M)(r1:Rep fa X.K μ H (.fn o) x)(r2:Rep fa X.K μ H dy y)(ry:RelV y iv)(rv:RelV v u)(r3:Rep fa X.K μ H d v)(e1:c4 M o=some q)(hk:isKey q.1 dy=true)(hl:q.2.length<1000000) :
 ∃(a b:Addr) (kd:KD X q.1) (kk:kd.K) (xs:List (kd.K×Addr×OX)),x=.ref a/\iv=.ref b/\kd.knd.is s.heap kk b/\xs.length<=sizeLine/\iB kd.knd s.heap a xs/\∀J t,iB kd.knd J a (storedH xs kk b u)->QE a s.heap J->∃O,Inv X pins σ O {s with heap:=J,toks:=t}/\Ext μ H μ O/\RelM fa X.K μ O (M.set (o-5000) (.int q.1::putD q.2 dy d)):=by
 obtain⟨a,kd,h,xs,rfl,ho,ha,Y,L,hc,E,dp,nd⟩:=oQ hd I Q r1 e1;obtain⟨kk,F⟩:=nO hk kd;obtain⟨b,rfl⟩:=kd.ref r2 F;obtain⟨ys,hz,S⟩:=KD.dict I L dp nd;obtain rfl:iv=Value.ref b:=ry;have j:=dp.put F r2 rv r3;refine{a,b,kd,kk,xs,rfl,rfl,kd.is I r2 F,hz,S,λJ t P hs=>?_};obtain⟨R,es',h1,h2,h3,h4,_,_⟩:=P;have lx:(storedH xs kk b u).length<=sizeLine:=by
  have l1:=Paired.length j;have l2:(jF h dy d).length<=h.length+1:=by
   unfold jF;split<;>simp
  have l3:h.length<1000000:=by rw[E,OY] at hl;exact hl
  rw[<- l1,sizeLine_eq];omega
 have eo:au (o-5000)=o:=Nat.add_sub_cancel' ho;have x:=Ext.dic (es':=(storedH xs kk b u).map (entryOfKey kd.knd)) Q L;refine{upd H a (.dn ((storedH xs kk b u).map (entryOfKey kd.knd))),I.write (by rw[L];exact True.intro) (.inl rfl) (λb q hb z=>(hs.2 b hb).trans z) ⟨R,h1⟩ {by simpa using lx,ys,R,h1,h2,?_},x,?_}
 ·have B:=congrArg List.length h4;rw[OY] at B;rw[h3,<- h4,B]
 ·refine Q.dicW Y (by rw[eo];exact ha) L (.inr {q.1,_,jF h dy d,bH,hc,?_,QT.mapP (KD.back j) λp e ⟨b,v,e1,e2,E,U,W⟩=>{b,v,e1,e2,E.ext x,U,W.ext x},dp.keys nd F})
  rw[E,<- Ia];rfl
def E5 (P:Rm X)(hd:hU fa):Cn X (rDS fa X.K):=by
 intro pins s σ H x y v W iv u Q I rx ry rv h;obtain⟨μ,M,o,dy,d,q,L,r1,r2,Y,e1,hk,hl,k⟩:=h;obtain⟨a,b,S,kk,xs,rfl,rfl,O,R,F,z⟩:=qf hd I L r1 r2 ry rv Y e1 hk hl;obtain rfl:W=Value.ref a:=rx;refine wF (hsz:=R) (S.room P) O F λJ j hs=>?_;obtain⟨B,E,x',U⟩:=z J _ j hs;exact{B,E,k B x' U}
end
section
variable{fa:Fa}{X:Cx}{a b d:Expr}{ga gb gd:GE}{pos:Pos}
def Ka (O:Rm X)(hd:hU fa)(J:DE fa X a ga)(L:DE fa X b gb)(hs:fP b):DE fa X (.Subscript a b pos) (iw ga gb):=
 bq (ow (DG O hd) J L hs) λW H Q ⟨S,U,M,E,I,h⟩=>t2 E I h λx y B v u R z P F j r1 r2 h2=>by
  cases x with
  | fn o =>
    obtain⟨d,e,q⟩:=iG h2;exact{z,B,o,y,d,j,r1,r2,e,aZ.ext q P}
  |_=>exact h2.elim
def vX {x y:D}(h:ae (match y with|.fn o=>(match inD M o x with|some r=>Res.ok (D.bl (n != r)) M|none=>.bad)|_=>.bad) k):∃o r,y=.fn o/\inD M o x=some r/\k (.bl (n != r)) M:=by
 cases y with
 | fn o =>
   dsimp only at h;cases e:inD M o x with
   |none=>rw[e] at h;exact h.elim
   |some r=>rw[e] at h;exact⟨o,r,rfl,e,h⟩
 |_=>exact h.elim
def L9 (n:Bool)(O:Rm X)(hd:hU fa)(J:DE fa X a ga)(L:DE fa X b gb)(hm:behindInMarks (if n then .NotIn else .In) b=false):DE fa X (.Compare a [if n then .NotIn else .In] [b] pos) (lV n ga gb):=
 bq (pR (DR O hd n) J L hm) λW H Q ⟨S,U,M,E,I,h⟩=>t2 E I h λx y B v u R z P F j r1 r2 h2=>by
  obtain⟨o,r,rfl,e,q⟩:=vX h2;exact{z,B,o,x,r,j,r1,r2,e,aP j (q.ext P) rfl}
def JL (n:Bool)(W:Rm X)(hd:hU fa)(S:DE fa X a ga)(U:DE fa X b gb)(hm:behindInMarks (if n then .NotIn else .In) b=false):DT fa X (.Compare a [if n then .NotIn else .In] [b] pos) (aq (lV n ga gb)):=
 jP (pO (DR W hd n) S U hm) λσ H Q ⟨μ,Z,M,O,R,h⟩=>by
  obtain⟨z,I,e,q⟩:=ax h;have L:ae (lV n ga gb Z M) (λd M=>d=z/\M=I):=by rw[e];exact⟨rfl,rfl⟩
  refine t2 O R L λx y F v u E B Y P j r1 r2 h2=>?_;obtain⟨o,r,rfl,e1,e2,J⟩:=vX h2;subst e2 J;exact{B,F,o,x,r,j,r1,r2,e1,n != r,rfl,q E B Y j}
set_option tactic.hygienic true in
def HC (hu:Rm X)(hk:hU fa)(W:DE fa X a ga)(Y:DE fa X b gb)(hd:DE fa X d gd)
 (R:∀v,assign (.Subscript a b p2) X.env v=(do
  let u <- holding [v] (eval a X.env)
  let J <- holding [v,u] (eval b X.env)
  standAt p2
  holding [v,u,J] (setItem u J v)
  release [v,u,J] [])) (hs:swapsWithSole [.Subscript a b p2] d pos.line X.env=pure false) (hw:swappedStores [.Subscript a b p2] d X.env=pure none) :
 DS fa X (.Assign [.Subscript a b p2] d pos) (kj ga gb gd):=
 cM (lF hd (y3 W Y (E5 hu hk) R) hs hw) λD' σ H ⟨μ,Z,M,S,U,h⟩=>t1 S U h λz M1 v H1 μ1 x1 B F r1 h1=>t2 B F h1 λx y L vx vy H2 j P E I rx ry h2=>by
  cases x with
  | fn o =>
    dsimp only at h2;cases e:c4 L o with
    |none=>rw[e] at h2;exact h2.elim
    | some q =>
      rw[e] at h2;dsimp only at h2;split at h2
      ·next c=>
       have w:=h2;exact{j,L,o,y,z,q,I,rx,ry,r1.ext P,e,c.1,c.2,λQ O m'=>w σ Q j ((x1.trans P).trans O) (E.ext O) m'}
      ·exact h2.elim
  |_=>exact h2.elim
end
def tD (hd:(d==sysModules)=false) :
 MeetsIn prog w (Builtin.«dict.__len__» {[.ref d],[]}) (λ_ R s=>∃o es u,s.heap.get? d=some o/\o.data=.dict es u/\R (.ok (.ret (.int es.size s.toks))) {s with toks:=s.toks+1}):=
 .of_wp λA R s ⟨o,es,u,ho,j,h⟩=>by
  show wpAny _ _ (dictSize d >>= _) _ _ s;refine tqa (tqa (wpAny_dictEntries ho j (tqb ?_)));refine tqa (wpAny_pendingCount_other hd (wpAny_ret_mkInt ?_));rw[Nat.add_zero];exact h
def I9 (hd:(d==sysModules)=false)(ho:s.heap.get? d=some o)(y:o.cls=.type "dict")(j:o.data=.dict es ep)(v:es.size<2^62)
 (h:∀t t',Q (.int es.size t) {s with toks:=t'}):wpAny (model prog w) A (call (.builtin "len") [.ref d]) Q E s:=by
 have u:s.TypeIs (.ref d) "dict":=⟨o,ho,y⟩;refine Calls.call_function_entry kind_len plain_len entry_len (args_len1 _) ?_;refine tqa (tqb ?_);refine tqa (wpAny_callSpecial?_slot u F.slot_dict_len (call_meetsIn F.slot_dict_len u F.entry_dict_len (F.args_dict_len_1 _) (tD hd) {o,es,ep,ho,j,?_}));refine tqa (tqo (tqb (tqa (wpAny_letGo ?_))));rw[if_neg `a]
 rw[if_neg `a]
 exact tqa (wpAny_mkInt (tqb {_,rfl,h _ _}))
def mJ (a:GE):GE:=λh M=>(a h M).bind λx M=>match x with
 | .fn o => (match c4 M o with
   |some q=>.ok (.int q.2.length) M
   |none=>.bad)
 |_=>.bad
section
variable{fa:Fa}{X:Cx}{a:Expr}{ga:GE}{p pos:Pos}
def Jz (hd:hU fa):cu X (.builtin "len") (λxs H Q=>∃μ M o q v,xs=[v]/\RelM fa X.K μ H M/\Rep fa X.K μ H (.fn o) v/\c4 M o=some q/\Q (.int q.2.length) H):=by
 intro j s σ H xs us Q I r h;obtain⟨μ,M,o,q,v,rfl,F,P,e,k⟩:=h;obtain⟨b,J,L,R,rfl,ho,U,S,E,W,u,dp,nd⟩:=oQ hd I F P e;cases r with
 | cons r O =>
   cases O;obtain rfl:=(r);obtain⟨z,y,ob,h1,h2,h3⟩:=(I.hok b _ E);have B:(R.map (entryOfKey J.knd)).toArray.size=q.2.length:=by
    rw[u,O7,OY,OY];exact(Paired.length dp).symm
   refine I9 y h1 h2.1 h3 ?_ λt Y=>{.int q.2.length,H,I.tok _,{t,by rw[B]},k}
   rw[O7];rw[sizeLine_eq] at z;omega
def J9 (hd:hU fa)(I:Gl X "len")(hm:X.mg "len"=none)(F:DE fa X a ga)(he:notStar a=true):DE fa X (.Call (.Name "len" p) [a] [] pos) (mJ ga):=
 bq (ko (Jz hd) I hm PySem.boot_len (cU F eB (by rw[ba he])) `d `d (by rw[ba he]) `r) λR H Q ⟨O,P,M,z,E,h⟩=>t1 z E h λx y v L u J B j r1 h1=>by
  cases x with
  | fn o =>
    dsimp only at h1;cases e:c4 y o with
    |none=>rw[e] at h1;exact h1.elim
    |some q=>rw[e] at h1;exact{u,y,o,q,v,rfl,j,r1,e,aP j (aZ.ext h1 J) rfl}
  |_=>exact h1.elim
end
def ju (u y:GE):Env->List D->Mem->Res (List D):=λj h M=>(u j M).bind λk M=>(y j M).bind λv M=>match h with
 | [.fn o] => (match c4 M o with
   |some q=>if isKey q.1 k=true/\q.2.length<1000000 then .ok h (M.set (o-5000) (.int q.1::putD q.2 k v)) else .bad
   |none=>.bad)
 |_=>.bad
def jY (c:Int)(n:Nat)(t:fg)(u:GW)(g:GB):GE:=λj M=>(u j M).bind λw M=>(c6 (dr t g (List.replicate n none++j)) w [.fn (au M.length)] (M++[[.int c]])).bind λh M=>match h with
 |[d]=>.ok d M
 |_=>.bad
def wg (a:Addr):PA:=λj _ h=>∃o,h=[.fn o]/\5000<=o/\j.ob o=some a
def wg.stab:xF (wg a):=λ_ _ _ _ _ x ⟨o,h1,h2,h3⟩=>{o,h1,h2,x.obs _ _ h3}
def AU (B y h j:Expr)(u:Scope)(pos:Pos)(z:OX)(d:Addr)(env:Qu) :
 compTurn (.DictComp B y [{h,j,[],0}] u pos) 0 z (.ref d) env=(standAt j.pos >>= λ_=>pyNext z >>= λr=>match r with
  |none=>pure (.done .next)
  |some v=>letOwnedTupleGo h z v >>= λ_=>assign h env v >>= λ_=>(eval B env >>= λE=>holding [E] (eval y env) >>= λF=>standAt {B.pos with endLine:=y.pos.endLine,endCol:=y.pos.endCol} >>= λ_=>holding [E,F] (dictSet d E F)) >>= λ_=>again (.compLoop (.DictComp B y [{h,j,[],0}] u pos) 0 z (.ref d) env)):=`r
section
variable{fa:Fa}{X:Cx}{a:Addr}
set_option tactic.hygienic true in
def Gk (hu:Rm X)(hd:hU fa)(hk:DE fa X kx gk)(hv:DE fa X vx gv):DB fa X (wg a) a [] (eval kx X.env >>= λY=>holding [Y] (eval vx X.env) >>= λvv=>standAt {kx.pos with endLine:=vx.pos.endLine,endCol:=vx.pos.endCol} >>= λ_=>holding [Y,vv] (dictSet a Y vv)) (ju gk gv):=by
 rintro z s O H Q μ Z M _ I U hM hc ⟨o,rfl,ho,W⟩ h;obtain⟨k,M1,e,h⟩:=ax h;obtain⟨v,M2,e2,h⟩:=ax h;dsimp only at h;cases R:c4 M2 o with
 |none=>rw[R] at h;exact h.elim
 | some q =>
   rw[R] at h;dsimp only at h;split at h
   ·next c=>
    refine tqa (aI (hk z s O H (λv y=>∃j,Ext μ H j y/\RelM fa X.K j y M1/\Rep fa X.K j y k v) I {μ,Z,M,U,hM,?_}) λuk s1 ⟨wk,y,I1,rk,j,B,E,r1⟩=>?_)
    ·rw[e];exact λv y j B E r1=>⟨j,B,E,r1⟩
    refine tqa (tqo (aI (hv z s1 O y (λw J=>∃u,Ext j y u J/\RelM fa X.K u J M2/\Rep fa X.K u J v w) I1 {j,Z,M1,U.ext B,E,?_}) λuv s2 ⟨wv,J,I2,rv,u,L,m2,r2⟩=>?_))
    ·rw[e2];exact λv y j B E r1=>⟨j,B,E,r1⟩
    have F:=L.obs _ _ (B.obs _ _ W);obtain⟨a',b,kd,kk,xs,ea,rfl,hi,hz,dd,S⟩:=qf hd I2 m2 {a,rfl,.inr {hd.of _ ho,F}} (r1.ext L) rk rv r2 R c.1 c.2;cases ea;refine tqa (wpAny_standAt (tqo (kF (hsz:=hz) (kd.room0 hu) hi dd λh' P hs=>?_)));obtain⟨H',I',x',m'⟩:=S h' _ P hs;exact{O,H',I',h O H' u ((B.trans L).trans x').toD (((U.ext B).ext L).ext x') m' {o,rfl,ho,x'.obs _ _ F}}
   ·exact h.elim
def uT {c:Int}{rest:List Q2}(hc:c=77\/c=78)(hd:hU fa)
 (S:eU X own bn scope) (Y:X.calm=true) (hi:DI fa X tg iter gw) (B:Block fa X wg own bn scope tg t W body g) (hT:∀(it a:Addr) (env:Qu),compTurn (.DictComp kx vx ({tg,iter,ifs,0}::rest) scope pos) 0 (.ref it) (.ref a) env=(standAt iter.pos >>= λ_=>pyNext (.ref it) >>= λr=>match r with
  |none=>pure (.done .next)
  |some v=>letOwnedTupleGo tg (.ref it) v >>= λ_=>assign tg env v >>= λ_=>body a env >>= λ_=>again (.compLoop (.DictComp kx vx ({tg,iter,ifs,0}::rest) scope pos) 0 (.ref it) (.ref a) env))) (hW:∀i∈W,i∉slots t) (hn:∀i∈slots t++W,i<own.length)
 (hs:∀x,foldedSetIterable iter X.env x=pure x)
 (I:Inv X pins σ H s) (hE:bb fa X.K μ H σ Z) (hM:RelM fa X.K μ H M) (h:ae (jY c own.length t gw g Z M) (aZ fa X.K μ H Q))
 (post:∀(a C:Addr) (s':O0) (E:Hp),Inv X pins σ E s'->Q (.ref a) E->(∃m,s'.heap.Ns C m)->(∀σ2 F s2,Inv X pins σ2 F s2->(E C=none->F C=none)->F C=none/\∀U,QE C s2.heap U->Inv X pins σ2 F {s2 with heap:=U})->E C=none->(C≠X.env.locals/\∀x c,X.env.cells.lookup x=some c->c≠C)->compPost (model X.prog X.w) X.A X.xe use QQ (.ref a) C (.ok .next) s') :
 wpAny (model X.prog X.w) X.A (comprehension (.DictComp kx vx ({tg,iter,ifs,0}::rest) scope pos) scope X.env p0 newDict false (eval iter X.env) use) QQ X.xe s:=by
 obtain⟨w,M1,ew,q⟩:=ax h;obtain⟨acc,M2,ea,q2⟩:=ax q;obtain⟨cl,hcl,R,P⟩:=oU λy hy hf=>I.ok.has y.1 (S.free y hy hf);refine wpAny_comprehension_free rfl hs hcl S.kind S.loc ?_;refine aI (hi pins s σ H (λJ H1=>∃L,Ext μ H L H1/\RelM fa X.K L H1 M1/\dQ fa X.K L H1 w J) I {μ,Z,M,hE,hM,?_}) λv s1 h1=>aI h1 λitv s2 h2=>?_
 ·rw[ew];exact λJ H1 L x1 m1 wk=>⟨L,x1,m1,wk⟩
 obtain⟨it,fp,tn,J,F,ei,I2,T,st2,f2,μ2,x2,m2,wk⟩:=h2;subst ei;refine tqa (wpAny_alloc (tqb ?_));have j:sysModules<s2.heap.objs.size:=Nat.lt_trans `d (I2.mod.glob.keeps I2.bk).lt
 have ha:=I2.hok.fresh (OZ _);have I3:Inv X pins σ (upd F s2.heap.objs.size (.dn [])) {s2 with heap:=s2.heap.push {cls:=.type "dict",data:=.dict #[]}}:=
  I2.laid (λb o e=>OW _ e) (OZ _) {QO _,Qf.mpr (Qk (Pu j)),_,Ph _ rfl,⟨rfl,rfl,rfl⟩,rfl}
 generalize hs3:({s2 with heap:=s2.heap.push {cls:=.type "dict",data:=.dict #[]}}:O0)=s3 at I3 ⊢
 have k3:∀b o,s2.heap.get? b=some o->s3.heap.get? b=some o:=λb o e=>by rw[<- hs3];exact OW _ e
 have fo2:=T.obj _ _ st2;have f3:∀b∈fp,eR X pins (upd F s2.heap.objs.size (.dn [])) b:=λb j=>by
  obtain⟨o,e,_⟩:=fo2 b j;exact{by rw[ao (Pu (Pe e))];exact(f2 b j).1,(f2 b j).2}
 have fo3:∀b∈fp,∃o,s3.heap.get? b=some o:=λb j=>let{o,e,_}:=fo2 b j;{o,k3 b o e}
 obtain⟨CL,hce⟩:=DQ S R P (s3.heap.push {cls:=.type "dict",data:=.dict #[]}) (Qt ..);generalize O:cellsFrom (s3.heap.objs.size+1) scope.names cl=cl' at CL hce;refine qS ?_;rw[O];have u:(pushCells (s3.heap.push {cls:=.type "dict",data:=.dict #[]}) scope.names).Ns s3.heap.objs.size (λ_=>none):=(Heap.Ns.new s3.heap (.type "dict")).keeps (pushCells_keeps _ _);have k4:∀b o,s3.heap.get? b=some o->(pushCells (s3.heap.push {cls:=.type "dict",data:=.dict #[]}) scope.names).get? b=some o:=λb o e=>pushCells_keeps _ _ b o (OW _ e);generalize pushCells (s3.heap.push {cls:=.type "dict",data:=.dict #[]}) scope.names=h₁ at u k4 hce ⊢;clear hcl O R P cl
 rename List (Str×Addr)=>cl
 have I4:=ui (t':=s3.toks) I3 S CL f3 fo3 u k4 hce;have ok4:=I4.ok;have f4:∀b∈fp,eR (fq X own bn scope cl s3.heap.objs.size fp s3 (upd F s2.heap.objs.size (.dn []))) [] (upd F s2.heap.objs.size (.dn [])) b:=λb j=>
  {(f3 b j).1,(ok4.exf b j).1,ok4.exfs b j,.inl j,(ok4.exf b j).2,λp hp=>nomatch hp}
 have st4:=T.keep _ _ _ st2 λb j o e=>k4 b o (k3 b o e);have x3:=Ext.dicNew m2 ha;have m3:=m2.dicNew ha hc;have go:=qj wg.stab (X:=fq X own bn scope cl s3.heap.objs.size fp s3 (upd F s2.heap.objs.size (.dn []))) (acc:=[.fn (au M1.length)]) (Q:=λ_ E=>Q (.ref s2.heap.objs.size) E) (hT it s2.heap.objs.size _) ⟨rfl,rfl⟩ rfl Y T (B.pg _ _ _ _ _) (B.db _ _ _ _ _ _) hW I4 st4 f4
  (sP own.length ((hE.ext x2).ext x3)) m3 (qW hn) {_,rfl,Qg _ _,if_pos rfl} (qu wk x3.toExtW) (by
   rw[ea];rintro σ' E μ' z1 z2 z3 ⟨o,rfl,ho,hob⟩;have z:Ext _ _ μ' E:={z1.toExtW,z1.pr,λb j=>z1.pk b j λe=>by
    obtain⟨⟨vs,q⟩,_⟩:=m2.pv b j;rw[e,ha] at q;cases q}
   exact q2 (.ref s2.heap.objs.size) E μ' ((x2.trans x3).trans z) z3 {_,rfl,.inr {hd.of _ ho,hob}})
 have go':codeAny (model X.prog X.w) X.A (.compLoop (.DictComp kx vx ({tg,iter,ifs,0}::rest) scope pos) 0 (.ref it) (.ref s2.heap.objs.size) (compEnvC scope cl s3.heap.objs.size X.env)) (compPost (model X.prog X.w) X.A X.xe use QQ (.ref s2.heap.objs.size) s3.heap.objs.size) {s3 with heap:=h₁}:=
  codeAny_mono go λr s' ⟨er,σ',E,I',z⟩=>by
   subst er;refine post _ _ s' E (comp_back I3 f3 I') z (let{m,hn,_}:=I'.loc;⟨m,hn⟩) (λσ2 F s2' I2' hf=>{hf I'.free,λU hs''=>qV I3 (hf I'.free) I2' hs''}) I'.free {PX I3.lt,λx c e z=>by
    obtain⟨v,q⟩:=I3.cell x c e;exact absurd q.lt (by rw[z];exact Qj _)}
 exact codeAny_compStart_dict go' (T.self _ 0 _ _ _ st4 go')
def Gq {c:Int}{z y E j:Expr}{pos:Pos}(hc:c=77\/c=78)(hd:hU fa)
 (S:eU X own bn scope) (u:X.calm=true) (hi:DI fa X E j gw) (B:Block fa X wg own bn scope E t [] (λa env=>eval z env >>= λJ=>holding [J] (eval y env) >>= λP=>standAt {z.pos with endLine:=y.pos.endLine,endCol:=y.pos.endCol} >>= λ_=>holding [J,P] (dictSet a J P)) (ju gk gv)) (hn:∀i∈slots t++[],i<own.length)
 (hs:∀x,foldedSetIterable j X.env x=pure x):DE fa X (.DictComp z y [{E,j,[],0}] scope pos) (jY c own.length t gw (ju gk gv)):=by
 intro O s σ H Q I ⟨μ,Z,M,W,Y,h⟩;refine uT hc hd S u hi B (λit a env=>AU z y E j scope pos (.ref it) a env) (λ_ h=>nomatch h) hn hs I W Y h ?_;intro a C s' L R q ⟨m,hn⟩ v hf _;exact{m,hn,λU F=>{.ref a,L,(v σ L s' R id).2 U F,rfl,q}}
end
def Ci (hh:A.in1.handled=none)(S:p≠I)(Y:Nat->Bool)(G:Heap->Prop)(J:∀h u,G h->(∀b o,b∉[I]->h.get? b=some o->u.get? b=some o)->G u)
 (U:∀i v (s:O0) (Q:Bool->O0->Prop) (E:OX->O0->Prop),items[i]?=some v->G s.heap->(∀t,Q (Y i) {s with toks:=t})->wpAny (model prog w) A.in1 (truthy v) Q E s):∀(k i:Nat) (s:O0),items.size-i=k->i<=items.size->(s.heap.IsListIter I p i/\s.heap.IsList p items)->G s.heap->
 (∀u tk,G u->R (.ok (.ret (.bool (((List.range items.size).drop i).any Y)))) {s with heap:=u,toks:=tk})->codeAny (model prog w) A (.builtin "any.loop" {[.ref I],[]}) R s:=by
 have W:=Walks.list (prog:=prog) (w:=w) hh I p S items;intro k;induction k with
 | zero =>
   intro i s hk hi z g L;have P:i=items.size:=`a
   subst P;refine codeAny_builtin F.entry_any_loop ?_;rw[Around.under_plainId F.plain_any_loop _];refine tqa (W.done s _ _ z λu tk j=>?_);refine tqa (wpAny_rule (tqb ?_));have:=L u tk (J _ _ g j);rw[List.drop_of_length_le `s] at this
   exact this
 | succ k ih =>
   intro i s hk hi z g L;have y:i<items.size:=`a
   have hd:(List.range items.size).drop i=i::(List.range items.size).drop (i+1):=by
    rw[List.drop_eq_getElem_cons (by simpa using y)];simp
   refine codeAny_builtin F.entry_any_loop ?_;rw[Around.under_plainId F.plain_any_loop _];refine tqa (W.item i s _ _ y z λv u tk hP B j=>?_);refine tqa (tqo (U i v _ _ _ hP (J _ _ g j) λt=>?_));refine tqa (wpAny_letGo ?_);cases hb:Y i with
   | false =>
     refine tqb {plainId_quiet F.plain_any_loop _,ih (i+1) _ `a y B (J _ _ g j) λO H M=>?_}
     have:=L O H M;rw[hd,List.any_cons,hb,Bool.false_or] at this;exact this
   | true =>
     refine tqa (wpAny_rule (tqb ?_));have:=L u t (J _ _ g j);rw[hd,List.any_cons,hb,Bool.true_or] at this;exact this
def range_any (bs:List Bool):((List.range bs.length).any λi=>(bs[i]?).getD false)=bs.any id:=by
 rw[Qs,List.any_eq_true,List.any_eq_true];constructor
 ·rintro⟨i,_,e⟩;cases z:bs[i]? with
  |none=>rw[z] at e;cases e
  |some b=>rw[z] at e;exact{b,PZ z,e}
 ·rintro⟨b,j,e⟩;obtain⟨i,h⟩:=List.getElem?_of_mem j;exact{i,QP.mpr (OV.mp h).1,by rw[h];exact e}
def nj (M:Mem):D->Option Bool
 |.bl b=>some b
 |d=>(d3 M d).map λxs=>!xs.isEmpty
def AV (h:nj M d=some b):d=.bl b\/∃xs,d3 M d=some xs/\b=!xs.isEmpty:=by
 cases d with
 |bl c=>cases h;exact .inl rfl
 | _ =>
   simp only[nj] at h;obtain⟨xs,e1,e2⟩:=O8.mp h;exact .inr ⟨xs,e1,e2.symm⟩
def ji (M:Mem):List D->Option (List Bool)
 |[]=>some []
 |d::r=>(nj M d).bind λb=>(ji M r).map (b::·)
def sg:∀{ds:List D}{bs:List Bool},ji M ds=some bs->bs.length=ds.length/\∀(i:Nat) d,ds[i]?=some d->∃b,bs[i]?=some b/\nj M d=some b
 |[],_,h=>by cases h;exact{rfl,λ_ _ e=>by simp at e}
 | d :: ds, _, h => by
   obtain⟨b,e,h⟩:=PB.mp h;obtain⟨bs,e2,rfl⟩:=O8.mp h;obtain⟨h1,h2⟩:=sg e2;refine{by simp[h1],λi j z=>?_}
   cases i with
   |zero=>cases z;exact⟨b,rfl,e⟩
   |succ i=>exact h2 i j z
def p7 (a:GE):GE:=λj M=>(a j M).bind λx M=>match d3 M x with
 | some h => (match ji M h with
   |some bs=>.ok (.bl (bs.any id)) M
   |none=>.bad)
 |none=>.bad
section
variable{fa:Fa}{X:Cx}{a:Expr}{ga:GE}{p pos:Pos}
def LK:cu X (.builtin "any") (λxs H Q=>∃μ M ds bs p vs,xs=[.ref p]/\X.calm=true/\RelM fa X.K μ H M/\c9 X.K H p vs/\aB fa X.K μ H ds vs/\ji M ds=some bs/\Q (.bl (bs.any id)) H):=by
 intro y s σ H xs us Q I r h;obtain⟨μ,M,ds,bs,p,vs,rfl,hc,hM,hq,rl,eb,q⟩:=h;obtain⟨u,rfl,rx⟩:=vals1 r;cases rx;obtain⟨j,S,pl,hz⟩:=I.list hq;obtain⟨hl,hb⟩:=sg eb;have P:=pl.lt;refine call_function_tree F.kind_any F.plain_any F.entry_any (F.args_any1 _) ?_;refine tqa (tqb ?_);refine tqa (wpAny_pyIter_list pl.isList ?_);refine tqb {plainId_quiet F.plain_any_loop _,Ci (I.ok.hd hc) (Pu P) (λi=>(bs[i]?).getD false) (λh=>∀b o,s.heap.get? b=some o->h.get? b=some o) (λh h' g k b o e=>k b o (λz=>by rw[Pr.mp z] at e;exact absurd (Pe e) (Qj _)) (g b o e)) ?_ j.toArray.size 0 _ rfl (QO _) {{_,Ph _ rfl,rfl,rfl},pl.isList.push _} (λb o e=>OW _ e) λh' tk g=>?_}
 ·intro i v s' Q' E' e g O;have e:j[i]?=some v:=by simpa using e
  have Y:i<vs.length:=by rw[S.length];exact(OV.mp e).1
  obtain⟨d,ed,rd⟩:=rl.getV (Pd Y);obtain⟨u,W,E⟩:=S.get (Pd Y);rw[e] at W;cases W;obtain⟨b,e1,e2⟩:=hb i d ed;rw[e1] at O;have list:∀xs,d3 M d=some xs->b=!xs.isEmpty->wpAny (model X.prog X.w) X.A.in1 (truthy v) Q' E' s':=λxs J L=>by
   obtain⟨a,ws,ev,hw,U⟩:=bA hM rd J;rw[ev] at E;obtain rfl:=(E);have I':Inv X y σ H {s with heap:=s'.heap,toks:=s.toks}:=I.kept g
   obtain⟨its',B,R,hz'⟩:=I'.list hw;have hlen:=B.length;have hs:=sizeLine_eq;refine wpAny_truthy_list R.isList (by simp only[O7];omega) ?_
   rw[kC B,show ws.isEmpty=xs.isEmpty by rw[Qs,List.isEmpty_iff_length_eq_zero,List.isEmpty_iff_length_eq_zero,U.length],<- L]
   exact O _
  rcases AV e2 with rfl|⟨xs,J,L⟩
  ·rw[show vs[i]=V.bl b from rd] at E;obtain rfl:=(E);exact tqp (O _)
  ·exact list xs J L
 ·rw[List.drop_zero,O7,<- S.length,rl.length,<- hl,range_any];exact{.bl _,H,I.kept g,rfl,q}
def Md (J:X.calm=true)(L:Gl X "any")(hm:X.mg "any"=none)(I:DE fa X a ga)(he:notStar a=true):DE fa X (.Call (.Name "any" p) [a] [] pos) (p7 ga):=
 bq (ko (LK) L hm `k (cU I eB (by rw[ba he])) `d `d (by rw[ba he]) `r) λY H Q ⟨U,W,M,B,F,h⟩=>t1 B F h λx u v S y R E j r1 h1=>by
  cases e:d3 u x with
  |none=>rw[e] at h1;exact h1.elim
  | some z =>
    rw[e] at h1;dsimp only at h1;cases e2:ji u z with
    |none=>rw[e2] at h1;exact h1.elim
    | some bs =>
      rw[e2] at h1;obtain⟨a,P,rfl,O,r⟩:=bA j r1 e;exact{y,u,z,bs,a,P,rfl,J,j,O,r,e2,aP j (aZ.ext h1 R) rfl}
end
def vQ (c:Int)(gk gv:GE):GE:=λj M=>(gk j (M++[[.int c]])).bind λk u=>(gv j u).bind λv h=>match c4 h (au M.length) with
 |some q=>if isKey q.1 k=true/\q.2.length<1000000 then .ok (.fn (au M.length)) (h.set (au M.length-5000) (.int q.1::putD q.2 k v)) else .bad
 |none=>.bad
section
variable{fa:Fa}{X:Cx}{kx vx:Expr}{gk gv:GE}{pos:Pos}
set_option tactic.hygienic true in
def Gp (c:Int)(hc:c=77\/c=78)(hu:Rm X)(hd:hU fa)(hk:DE fa X kx gk)(hv:DE fa X vx gv):DE fa X (.Dict [some kx] [vx] pos) (vQ c gk gv):=by
 intro u s W H Q I ⟨μ,Z,M,hE,hM,h⟩;obtain⟨k,M1,e1,h⟩:=ax h;obtain⟨v,M2,e2,h⟩:=ax h;cases L:c4 M2 (au M.length) with
 |none=>rw[L] at h;exact h.elim
 | some q =>
   rw[L] at h;dsimp only at h;split at h
   ·next cc=>
    have hb:sysModules<s.heap.objs.size:=Nat.lt_trans `d (I.mod.glob.keeps I.bk).lt
    have ha:=I.hok.fresh (OZ _);have I0:Inv X u W (upd H s.heap.objs.size (.dn [])) {s with heap:=s.heap.push {cls:=.type "dict",data:=.dict #[]}}:=
     I.laid (λb o e=>OW _ e) (OZ _) {QO _,Qf.mpr (Qk (Pu hb)),_,Ph _ rfl,⟨rfl,rfl,rfl⟩,rfl}
    have S:=Ext.dicNew hM ha;have m0:=hM.dicNew ha hc;have P:(eY μ M.length s.heap.objs.size).ob (au M.length)=some s.heap.objs.size:=if_pos rfl;refine wpAny_Dict_any rfl rfl `s (P9 rfl) ?_
    refine tqa (aI (hk u _ W _ (λv z=>∃j,Ext (eY μ M.length s.heap.objs.size) (upd H s.heap.objs.size (.dn [])) j z/\RelM fa X.K j z M1/\Rep fa X.K j z k v) I0 {_,Z,_,hE.ext S,m0,?_}) λuk s1 ⟨wk,z,I1,rk,j,B,n1,r1⟩=>?_)
    ·rw[e1];exact λv z j B R r1=>⟨j,B,R,r1⟩
    refine tqa (tqo (tqa (aI (hv u s1 W z (λw F=>∃y,Ext j z y F/\RelM fa X.K y F M2/\Rep fa X.K y F v w) I1 {j,Z,M1,(hE.ext S).ext B,n1,?_}) λuv s2 ⟨wv,F,I2,rv,y,U,m2,r2⟩=>?_)))
    ·rw[e2];exact λv z j B R r1=>⟨j,B,R,r1⟩
    refine tqa (wpAny_standAt (tqb ?_));refine tqa (tqo (tqb (tqb ?_)));have E:=U.obs _ _ (B.obs _ _ P);obtain⟨a',b,kd,kk,xs,ea,rfl,hi,hz,dd,O⟩:=qf hd I2 m2 {_,rfl,.inr {hd.of _ (Qg _ _),E}} (r1.ext U) rk rv r2 L cc.1 cc.2;cases ea;unfold storeAll;rw[List.forIn_cons];refine tqa (tqa (kF (hsz:=hz) (kd.room0 hu) hi dd λh' J hs=>tqb ?_));obtain⟨Y,I',x',m'⟩:=O h' _ J hs;refine tqb {.ref s.heap.objs.size,Y,I',rfl,h _ Y y (((S.trans B).trans U).trans x') m' {_,rfl,.inr {hd.of _ (Qg _ _),x'.obs _ _ E}}}
   ·exact h.elim
end
section
variable{fa:Fa}{X:Cx}{a tg iter:Expr}{ga:GE}{gw:GW}{apos cpos:Pos}
def mx (a d:GE):GS:=λh M=>(a h M).bind λx M=>match x with
 | .cell k => pD (λz M => match M[k]? with
   |some j=>if j.length<sz then .ok (.next h) (M.set k (j++[z])) else .bad
   |none=>.bad) h (d h M)
 |_=>.bad
set_option tactic.hygienic true in
def F8 (ha:DE fa X a ga)(hd:DX fa X d gd)(j:attributeBase a "append" X.env (eval a X.env)=eval a X.env)(u:(apos.endLine==cpos.line)=true)(hs:starEach [d] X.env=[(false,eval d X.env)])
 (R:swapsWith (.Call (.Attribute a "append" apos) [d] [] cpos) none pos.line X.env=pure false) :
 DS fa X (.Expr (.Call (.Attribute a "append" apos) [d] [] cpos) pos) (mx ga gd):=
 cM (my (C1 PySem.F.plainAttrs_list PySem.F.slot_list_append PySem.F.type_list_append lJ ha (cU hd eB hs) j (by rw[hs];rfl) u hs `r) R) λD' σ H ⟨μ,L,M,P,hM,h⟩=>by
  obtain⟨x,M1,e1,h1⟩:=ax h;cases x with
  | cell k =>
    refine{μ,L,M,P,hM,?_};rw[e1];intro vx H1 W I v rx;obtain⟨ad,rfl,hk⟩:=rx;obtain⟨ds1,S,_,Q,_⟩:=v.mu_lt hk;refine{.inl {rfl,S,c9.of Q},W,L,M1,P.ext I,v,?_};cases e2:gd L M1 with
    |bad=>rw[e2] at h1;exact h1.elim
    | err y E =>
      rw[e2] at h1;exact XW.ext h1 I
    | ok z E =>
      rw[e2] at h1;have h2:ae (match E[k]? with|some O=>if O.length<sz then Res.ok (Fl.next L) (E.set k (O++[z])) else .bad|none=>.bad) (j6 fa X μ H D'):=h1
      cases e:E[k]? with
      |none=>rw[e] at h2;exact h2.elim
      | some O =>
        rw[e] at h2;dsimp only at h2;split at h2
        ·next hz=>
         have q:=h2;intro vz H2 μ2 J B rz;obtain⟨ws,h4,h5⟩:=B.at_ e (J.mu k ad hk);refine{ad,ws,vz,rfl,rfl,h4,by rw[h5.length,<- dm];exact hz,?_}
         exact jh ((P.ext I).ext J) B (J.mu k ad hk) (h5.append (.one rz)) λY H' U x' e' m'=>q Y H' U ((I.trans J).trans x') e' m'
        ·exact h2.elim
  |_=>exact h1.elim
end
end LD
namespace LD
open PySem
def ob {α β:Type}{a:Option α}{f:α->Option β}{r:β}(h:a.bind f=some r):∃x,a=some x/\f x=some r:=PB.mp h
def oi {α:Type}{c:Prop}[Decidable c]{a:Option α}{r:α}(h:(if c then a else none)=some r):c/\a=some r:=by
 split at h
 ·exact{by assumption,h}
 ·cases h
section
variable{β:Type}{r:β}{e:Expr}{st:Stmt}
def od {c:Prop}[Decidable c]{f:c->Option β}(h:(if x:c then f x else none)=some r):∃x,f x=some r:=by
 by_cases z:c
 ·rw[dif_pos z] at h;exact⟨z,h⟩
 ·rw[dif_neg z] at h;cases h
local macro_rules|`(command|#check $n:ident $a*)=>do
 let m:=a[0]!.raw;let c:Lean.TSyntax `ident:=⟨a[1]!.raw⟩;let v:Array (Lean.TSyntax `ident):=(a.extract 3 a.size).map λx=>⟨x.raw⟩;let f:=Lean.mkIdentFrom c (c.getId++`elim)
 `(noncomputable def $n {β:Type} e:=λg=>if h:e.ctorIdx=$(⟨a[2]!.raw⟩) then @$f (λ_=>Option β) e h g else none
 theorem $(⟨m⟩) {β:Type}{e}{g}{y:β}(h:$n e g=some y):∃$[$v:ident]*,e=$c $v*∧g $v*=some y:=(od h).elim λz h=>@$f (λe=>∀z,@$f (λ_=>Option β) e z g=some y→∃$[$v:ident]*,e=$c $v*∧g $v*=some y) e z (λ$v* _ h=>by exact⟨$v,*,rfl,h⟩) z h)
#check MK zk Expr.UnaryOp 3 a b c
#check C6 tu Expr.BoolOp 0 a b c
#check MM zl Expr.ListComp 8 a b c d
#check IL vF Expr.IfExp 5 a b c d
#check IS pV Expr.Compare 15 a b c d
#check rQ kr Expr.Call 16 a b c d
#check NI FI Expr.FormattedValue 17 a b c d
#check NH FH Expr.JoinedStr 18 a b
#check BA pU Expr.Constant 19 a b c
#check rR ku Expr.Attribute 20 a b c
#check nI gx Expr.Subscript 21 a b c
#check nName cb Expr.Name 23 a b
#check pT fJ Expr.Tuple 25 a b c
#check IK vE Expr.Slice 26 a b c d
#check pK iE Stmt.Assign 5 a b c
#check Nx E9 Stmt.Raise 16 a b c
#check sTr HH Stmt.Try 17 a b c d f
#check Bg pI Stmt.Expr 24 a b
#check NJ FK Expr.BinOp 2 a b c d
#check NG FG Expr.List 24 a b
#check sRt HI Stmt.Return 3 a b
#check MF yQ Stmt.For 9 a b c d f
#check ME yP Stmt.If 12 a b c d
#check sPs HJ Stmt.Pass 25 a
variable{α:Type}{l:List α}
noncomputable def n0 (l:List α)(v:Option β):Option β:=if l.isEmpty=true then v else none
def eG {v:Option β}(h:n0 l v=some r):l=[]/\v=some r:=(oi h).elim λc h=>{List.isEmpty_iff.mp c,h}
noncomputable def nC (l:List α)(k:α->List α->Option β):Option β:=match l with
 |[]=>none
 |a::s=>k a s
def gL {k:α->List α->Option β}(h:nC l k=some r):∃a s,l=a::s/\k a s=some r:=by
 cases l with
 |nil=>cases h
 |cons a s=>exact⟨a,s,rfl,h⟩
def n1 (l:List α)(k:α->Option β):Option β:=nC l λa s=>n0 s (k a)
def b5 {k:α->Option β}(h:n1 l k=some r):∃a,l=[a]/\k a=some r:=by
 obtain⟨a,s,rfl,h⟩:=gL h;obtain⟨rfl,h⟩:=eG h;exact⟨a,rfl,h⟩
def n2 (l:List α)(k:α->α->Option β):Option β:=nC l λa s=>n1 s (k a)
def ik {k:α->α->Option β}(h:n2 l k=some r):∃a b,l=[a,b]/\k a b=some r:=by
 obtain⟨a,s,rfl,h⟩:=gL h;obtain⟨b,rfl,h⟩:=b5 h;exact⟨a,b,rfl,h⟩
def Bz (e:Expr)(k:Str->Option β):Option β:=BA e λc _ _=>match c with
 |.str z=>k z
 |_=>none
def vD {k:Str->Option β}(h:Bz e k=some r):∃z i p,e=.Constant (.str z) i p/\k z=some r:=by
 obtain⟨c,i,p,rfl,h⟩:=pU h;cases c with
 |str z=>exact⟨z,i,p,rfl,h⟩
 |_=>cases h
def MN (e:Expr)(k:Expr->Option β):Option β:=NI e λa i s _=>if i=-1/\s.isNone=true then k a else none
def IM {k:Expr->Option β}(h:MN e k=some r):∃a p,e=.FormattedValue a (-1) none p/\k a=some r:=by
 obtain⟨a,i,s,p,rfl,h⟩:=FI h;obtain⟨⟨rfl,c⟩,k⟩:=oi h;rw[Rf.mp c];exact⟨a,p,rfl,k⟩
noncomputable def nG (c:Q2)(k:Expr->Expr->List Expr->Option β):Option β:=if c.is_async=0 then k c.target c.iter c.ifs else none
def rP {c:Q2}{k:Expr->Expr->List Expr->Option β}(h:nG c k=some r):∃t i f,c={t,i,f,0}/\k t i f=some r:=by
 obtain⟨z,h⟩:=oi h;cases c;cases z;exact{_,_,_,rfl,h}
def lI (e:Expr)(k:Str->List Expr->Pos->Option β):Option β:=rQ e λf es ks p=>nName f λx _=>n0 ks (k x es p)
def fm {k:Str->List Expr->Pos->Option β}(h:lI e k=some r):∃x q es p,e=.Call (.Name x q) es [] p/\k x es p=some r:=by
 obtain⟨f,es,ks,p,rfl,h⟩:=kr h;obtain⟨x,q,rfl,h⟩:=cb h;obtain⟨rfl,h⟩:=eG h;exact⟨x,q,es,p,rfl,h⟩
def IT (e:Expr)(k:Expr->Str->Expr->Bool->Option β):Option β:=rQ e λf es ks p=>rR f λa m q=>n0 ks (n1 es λd=>k a m d (q.endLine==p.line))
def zm {k:Expr->Str->Expr->Bool->Option β}(h:IT e k=some r):∃a m q d p,e=.Call (.Attribute a m q) [d] [] p/\k a m d (q.endLine==p.line)=some r:=by
 obtain⟨f,es,ks,p,rfl,h⟩:=kr h;obtain⟨a,m,q,rfl,h⟩:=ku h;obtain⟨rfl,h⟩:=eG h;obtain⟨d,rfl,h⟩:=b5 h;exact⟨a,m,q,d,p,rfl,h⟩
def bI {a b:Option β}(h:a.or b=some r):a=some r\/b=some r:=by
 cases a with
 |none=>exact .inr h
 |some x=>exact .inl h
end
end LD
namespace LD
open PySem PySem.Spec PyProof.Rows L2
inductive En where
 |fn (i:Nat) (r:Bool)|fnD (i:Nat)|int (i:Int)|str (z:Str)|dct (fs:List (Str×Nat))|xc (k:Nat)|xi (k:Nat)|xk (k:Nat)|de|bl|cls (c f:Nat)
structure D5 (fa:Fa) (P:PH) (w:PC) (K:OU) (mg:Str->Option OX) (base:Heap) (T:List (Str×En)):Prop where
 fn:∀{x:Str}{i:Nat}{r:Bool},T.lookup x=some (.fn i r)->∀ad,fa i=some ad->mg x=some (.ref ad)
 fnD:∀{x:Str}{i:Nat},T.lookup x=some (.fnD i)->(∀ad,fa i=some ad->mg x=some (.ref ad))/\(fa (500+i)).isSome=true
 int:∀{x:Str}{i:Int},T.lookup x=some (.int i)->∃t,mg x=some (.int i t)
 str:∀{x:Str}{z:Str},T.lookup x=some (.str z)->∃t,mg x=some (.str z t)
 dct:∀{x:Str}{fs:List (Str×Nat)},T.lookup x=some (.dct fs)->∃ad kvs,mg x=some (.ref ad)/\fc K w.params ad kvs/\dZ fa kvs fs
 xc:∀{x:Str}{k:Nat},T.lookup x=some (.xc k)->∃C,mg x=some (.ref C)/\fa (ft k)=some C/\PySem.W.excIn K C Ac "ValueError.__new__"=true/\PySem.W.keepIn K (.ref C)=true
 xi:∀{x:Str}{k:Nat},T.lookup x=some (.xi k)->Am fa P w K mg base k x/\∃D,mg x=some (.ref D)/\fa (ft k)=some D
 xk:∀{x:Str}{k:Nat},T.lookup x=some (.xk k)->∃D,mg x=some (.ref D)/\fa (ft k)=some D
 de:∀{x:Str},T.lookup x=some .de->∃D,mg x=some (.ref D)/\fa 999=some D
 bl:∀{x:Str},T.lookup x=some .bl->mg x=none
 xcs:Kq fa K
 ob:Al fa K
 of:∀o,5000<=o->fa o=none
 od:fa (fj 77)=none/\fa (fj 78)=none
 cls:∀{x:Str}{c f:Nat},T.lookup x=some (.cls c f)->∃C,mg x=some (.ref C)/\fa (fj c)=some C/\∀ad,fa f=some ad->Mk K C ad
structure G where
 T:List (Str×En)
 tw:List (Str×Str×Nat×Nat)
 xf:List Str
 cel:List (Nat×Nat×Nat)
 txt:List (Nat×Nat×Nat)
 ms:List (Str×Nat×Nat)
 c:Call
 N:List Str
 sc:Scope
 lv:Nat
 oc:List Str:=[]
structure dF (fa:Fa) (n:Nat) (g:G) (X:Cx):Prop where
 N:X.N=g.N
 nd:g.N.Nodup
 sc:X.env.scope=g.sc
 T:D5 fa X.prog X.w X.K X.mg X.base g.T
 tw:∀q∈g.tw,wc fa X.K X.mg q.1 q.2.1 q.2.2.1 q.2.2.2
 xf:∀f∈g.xf,D3 fa X.K f
 ms:∀q∈g.ms,pC fa X.K q.1 q.2.1 q.2.2
 fn:g.lv≠1->∀x,X.fn x=true
 oc:∀x∈g.oc,X.fn x=true
 calm:0<g.lv->X.calm=true
 C:0<g.lv->∀f,eD fa X.prog X.w X.K X.mg X.base n f (g.c f)
 hr:0<g.lv->bK (2*n+4+1) X.A
 top:2<=g.lv->X.ex=[]/\X.stack=X.env::X.outer/\X.env.frame=some X.env.locals/\X.env.scope.kind=.function
 po:g.lv=2->PassesOwn (model X.prog X.w) X.A X.env X.xe
structure Rc where
 e:G->Expr->Option GE
 t:G->Expr->Option GT
 x:G->Expr->Option GE
 w:G->Expr->Expr->Option GW
 s:G->Stmt->Option GS
abbrev dE:=Rc->G->Expr->Option GE
abbrev D6:=Rc->G->Expr->Option GT
abbrev uK:=Rc->G->Expr->Expr->Option GW
abbrev hJ:=Rc->G->Stmt->Option GS
structure gG (fa:Fa) (n:Nat) (R:Rc):Prop where
 e:∀{g:G}{X:Cx}{a:Expr}{ga:GE},dF fa n g X->R.e g a=some ga->DE fa X a ga
 t:∀{g:G}{X:Cx}{a:Expr}{ga:GT},dF fa n g X->R.t g a=some ga->DT fa X a ga
 x:∀{g:G}{X:Cx}{a:Expr}{ga:GE},dF fa n g X->R.x g a=some ga->DX fa X a ga
 w:∀{g:G}{X:Cx}{t a:Expr}{ga:GW},dF fa n g X->R.w g t a=some ga->DI fa X t a ga
 s:∀{g:G}{X:Cx}{a:Stmt}{ga:GS},dF fa n g X->R.s g a=some ga->DS fa X a ga
def SE (r:dE):Prop:=∀{fa:Fa}{n:Nat}{R:Rc},gG fa n R->∀{g:G}{X:Cx},dF fa n g X->∀{a:Expr}{h:GE},r R g a=some h->DE fa X a h
def ST (r:D6):Prop:=∀{fa:Fa}{n:Nat}{R:Rc},gG fa n R->∀{g:G}{X:Cx},dF fa n g X->∀{a:Expr}{h:GT},r R g a=some h->DT fa X a h
def SX (r:dE):Prop:=∀{fa:Fa}{n:Nat}{R:Rc},gG fa n R->∀{g:G}{X:Cx},dF fa n g X->∀{a:Expr}{h:GE},r R g a=some h->DX fa X a h
def SW (r:uK):Prop:=∀{fa:Fa}{n:Nat}{R:Rc},gG fa n R->∀{g:G}{X:Cx},dF fa n g X->∀{t a:Expr}{h:GW},r R g t a=some h->DI fa X t a h
def SS (r:hJ):Prop:=∀{fa:Fa}{n:Nat}{R:Rc},gG fa n R->∀{g:G}{X:Cx},dF fa n g X->∀{a:Stmt}{h:GS},r R g a=some h->DS fa X a h
structure Rs where
 e:List dE
 t:List D6
 x:List dE
 w:List uK
 s:List hJ
noncomputable def It (rs:Rs):Nat->Rc
 |0=>{λ_ _=>none,λ_ _=>none,λ_ _=>none,λ_ _ _=>none,λ_ _=>none}
 |n+1=>{λg a=>rs.e.findSome? λr=>r (It rs n) g a,λg a=>rs.t.findSome? λr=>r (It rs n) g a,λg a=>rs.x.findSome? λr=>r (It rs n) g a,λg t a=>rs.w.findSome? λr=>r (It rs n) g t a,λg a=>rs.s.findSome? λr=>r (It rs n) g a}
def AllP {h:Type}(p:h->Prop):List h->Prop
 |[]=>True
 |a::l=>p a/\AllP p l
def AllP.mem {j:Type}{p:j->Prop}:∀{l:List j},AllP p l->∀a∈l,p a
 |_::_,h,a,m=>(PJ.mp m).elim (λe=>e ▸ h.1) (AllP.mem h.2 a)
structure Cm (rs:Rs):Prop where
 e:AllP SE rs.e
 t:AllP ST rs.t
 x:AllP SX rs.x
 w:AllP SW rs.w
 s:AllP SS rs.s
def D9 (h:Cm rs):∀k,gG fa n (It rs k)
 |0=>{(λ_ z=>nomatch z),(λ_ z=>nomatch z),(λ_ z=>nomatch z),(λ_ z=>nomatch z),(λ_ z=>nomatch z)}
 | k + 1 => by
   have j:=D9 (n:=n) (fa:=fa) h k;refine{λo z=>?_,λo z=>?_,λo z=>?_,λo z=>?_,λo z=>?_}
   ·obtain⟨r,m,e⟩:=QA z;exact h.e.mem r m j o e
   ·obtain⟨r,m,e⟩:=QA z;exact h.t.mem r m j o e
   ·obtain⟨r,m,e⟩:=QA z;exact h.x.mem r m j o e
   ·obtain⟨r,m,e⟩:=QA z;exact h.w.mem r m j o e
   ·obtain⟨r,m,e⟩:=QA z;exact h.s.mem r m j o e
noncomputable def M9:Str:="__debug__"
def g4 (g:G)(x:Str):Bool:=g.sc.names.lookup x==some .globalImplicit&&!(x==M9)
def vr (g:G)(x:Str):Option Nat:=if (g.sc.names.lookup x==some .local||g.sc.names.lookup x==some .cell||g.sc.names.lookup x==some .free)&&!(x==M9)&&!(x==("__classdict__":Str)) then g.N.findIdx? (·==x) else none
section
variable{fa:Fa}{n:Nat}{g:G}{X:Cx}{R:Rc}(o:dF fa n g X)
include o
theorem cH (h:g4 g x=true):Gl X x/\(x==("__debug__":Str))=false:=by
 unfold g4 at h;rw[O3,Bool.not_eq_true'] at h;exact{by show X.env.scope.names.lookup x=_;rw[o.sc];exact eq_of_beq h.1,h.2}
theorem w6 (h:g.N.findIdx? (·==x)=some i):X.N[i]?=some x:=by
 obtain⟨j,h1,_⟩:=Rl.mp h;rw[o.N,Pd j,eq_of_beq h1]
theorem CB (h:vr g x=some i):X.N[i]?=some x/\wb X.env.scope x/\(x==("__debug__":Str))=false/\(x==("__classdict__":Str))=false:=by
 obtain⟨c,h⟩:=oi h;simp only[O3,QJ,Bool.not_eq_true'] at c;refine{w6 o h,?_,c.1.2,c.2};rw[o.sc];rcases c.1.1 with(z|z)|z
 ·exact .inl (eq_of_beq z)
 ·exact .inr (.inl (eq_of_beq z))
 ·exact .inr (.inr (eq_of_beq z))
omit o
theorem dF.rm (o:dF fa n g X)(h:0<g.lv):Rm X:=Fb (o.hr h)
end
def cA (f:Expr->Option GE):List Expr->Option GA
 |[]=>some bx
 |a::r=>if notStar a=true then(f a).bind λx=>(cA f r).bind λy=>some (b7 x y) else none
def gM (hf:∀{a:Expr}{j:GE},f a=some j->DE fa X a j):∀{es:List Expr}{u:GA},cA f es=some u->DA fa X es u/\es.all notStar=true
 |[],_,h=>by cases h;exact⟨J5,rfl⟩
 | a :: r, _, h => by
   obtain⟨c,h⟩:=oi h;obtain⟨x,v,h⟩:=ob h;obtain⟨y,z,h⟩:=ob h;cases h;obtain⟨h1,h2⟩:=gM hf z;exact{Gm (hf v) h1 (ba c),by rw[Qb,c,h2];rfl}
noncomputable def uF (f:Expr->Option GE)(k:GE->GE->GE):List Expr->Option GE
 |[]=>none
 |[a]=>f a
 |a::b::r=>(f a).bind λx=>(uF f k (b::r)).bind λy=>some (k x y)
def v8 (hf:∀{a:Expr}{j:GE},f a=some j->DE fa X a j):∀{es:List Expr}{ge:GE},uF f fE es=some ge->DE fa X (.BoolOp .And es pos) ge
 |[a],_,h=>DN (hf h)
 | a :: b :: r, _, h => by
   obtain⟨x,u,h⟩:=ob h;obtain⟨y,v,h⟩:=ob h;cases h;exact Me (hf u) (v8 hf v)
def Ag (hf:∀{a:Expr}{j:GE},f a=some j->DE fa X a j):∀{es:List Expr}{ge:GE},uF f MZ es=some ge->DE fa X (.BoolOp .Or es pos) ge
 |[a],_,h=>DN (hf h)
 | a :: b :: r, _, h => by
   obtain⟨x,u,h⟩:=ob h;obtain⟨y,v,h⟩:=ob h;cases h;exact Oj (hf u) (Ag hf v)
noncomputable def sm (f:Expr->Option GT)(k:GT->GT->GT):List Expr->Option GT
 |[]=>none
 |[a]=>f a
 |a::b::r=>(f a).bind λx=>(sm f k (b::r)).bind λy=>some (k x y)
def u3 (hf:∀{a:Expr}{j:GT},f a=some j->DT fa X a j):∀{es:List Expr}{ge:GT},sm f d8 es=some ge->DW fa X (.BoolOp .And es pos) ge
 |[a],_,h=>F5 (hf h)
 | a :: b :: r, _, h => by
   obtain⟨x,u,h⟩:=ob h;obtain⟨y,v,h⟩:=ob h;cases h;exact JJ (hf u) (u3 hf v)
def yp (hf:∀{a:Expr}{j:GT},f a=some j->DT fa X a j):∀{es:List Expr}{ge:GT},sm f ff es=some ge->DW fa X (.BoolOp .Or es pos) ge
 |[a],_,h=>JI (hf h)
 | a :: b :: r, _, h => by
   obtain⟨x,u,h⟩:=ob h;obtain⟨y,v,h⟩:=ob h;cases h;exact LP (hf u) (yp hf v)
def CD:dE:=λ_ g e=>nName e λx _=>((vr g x).bind λi=>some (aa i)).or (if g4 g x=true then(g.T.lookup x).bind fun
 |.int i=>some (gC (.int i))
 |.str i=>some (gC (.str i))
 |_=>none else none)
def AD:SE CD:=by
 intro fa n R y g X o a u h;replace h:=cb h;obtain⟨x,p,rfl,h⟩:=h;rcases bI h with h|h
 ·obtain⟨i,e,h⟩:=ob h;cases h;obtain⟨a,b,c,d⟩:=CB o e;exact LV a b c d
 ·obtain⟨c,h⟩:=oi h;obtain⟨j,hd⟩:=cH o c;obtain⟨t,e,h⟩:=ob h;cases t with
  |int i=>cases h;exact Fe j (o.T.int e) hd
  |str i=>cases h;obtain⟨t,e⟩:=o.T.str e;exact iK (v:=.str _) (jQ j e ⟨t,rfl⟩ hd) λ_ _=>rfl
  |_=>cases h
def yh:dE:=λ_ _ e=>BA e fun
 |.int i,_,_=>some (gC (.int i))
 |.bool i,_,_=>some (gC (.bl i))
 |.str i,_,_=>some (gC (.str i))
 |.none,_,_=>some (gC .non)
 |_,_,_=>none
def yg:SE yh:=by
 intro fa n R u g X o a j h;replace h:=pU h;obtain⟨c,i,p,rfl,h⟩:=h;cases c with
 |int i=>cases h;exact L6
 |bool i=>cases h;exact Ol
 |str i=>cases h;exact LX
 |none=>cases h;exact L1
 |_=>cases h
noncomputable def G.cl (g:G)(p:Pos):Bool:=g.cel.contains (p.line,p.col,p.endCol)
def G.tx (g:G)(p:Pos):Bool:=g.txt.contains (p.line,p.col,p.endCol)
noncomputable def DY:Operator->Option rB
 |.Add=>some .add|.Sub=>some .sub|.Mult=>some .mul|.FloorDiv=>some .fdiv|.Mod=>some .mod|.Pow=>some .pow|_=>none
def Cg (h:DY q=some b):q=binOp b:=by cases q<;>cases h<;>rfl
noncomputable def fy:CmpOp->jC
 |.Eq=>.eq|.NotEq=>.ne|.Lt=>.lt|.LtE=>.le|.Gt=>.gt|.GtE=>.ge|.Is=>.isN|.IsNot=>.notN|.In=>.isin|.NotIn=>.notin
def cW (q:CmpOp):ec (fy q)=q:=by cases q<;>rfl
def G9:dE:=λR g e=>(NJ e λa q b p=>(DY q).bind λq=>(R.e g a).bind λx=>(R.e g b).bind λy=>some (ai (g.cl p) q x y)).or
 ((MK e λq a _ => match q with
   |.USub=>(R.e g a).bind λx=>some (fh x)
   |.Not=>(R.e g a).bind λx=>some (Oe x)
   |_=>none).or
 ((C6 e λq h _ => match q with
   |.And=>uF (R.e g) fE h
   |.Or=>uF (R.e g) MZ h).or
 ((IL e λc a b _=>(R.t g c).bind λt=>(R.e g a).bind λx=>(R.e g b).bind λy=>some (fZ t x y)).or
 ((pT e λh _ _=>(cA (R.e g) h).bind λs=>some (bu s)).or (NG e λh p=>(cA (R.e g) h).bind λs=>some (bt (g.cl p) s))))))
def Ew:SE G9:=by
 intro fa n R j g X o a F h;replace h:=bI h;rcases h with h|h
 ·obtain⟨a,q,b,p,rfl,h⟩:=FK h;obtain⟨q,B,h⟩:=ob h;obtain⟨x,u,h⟩:=ob h;obtain⟨y,v,h⟩:=ob h;cases h;rw[Cg B];exact Mc _ _ (j.e o u) (j.e o v)
 replace h:=bI h;rcases h with h|h
 ·obtain⟨q,a,p,rfl,h⟩:=zk h;cases q with
  |USub=>obtain⟨x,u,h⟩:=ob h;cases h;exact L3 (j.e o u)
  |Not=>obtain⟨x,u,h⟩:=ob h;cases h;exact LZ (j.e o u)
  |_=>cases h
 replace h:=bI h;rcases h with h|h
 ·obtain⟨q,z,p,rfl,h⟩:=tu h;cases q with
  |And=>exact v8 (j.e o) h
  |Or=>exact Ag (j.e o) h
 replace h:=bI h;rcases h with h|h
 ·obtain⟨c,a,b,p,rfl,h⟩:=vF h;obtain⟨t,E,h⟩:=ob h;obtain⟨x,u,h⟩:=ob h;obtain⟨y,v,h⟩:=ob h;cases h;exact L5 (j.t o E) (j.e o u) (j.e o v)
 replace h:=bI h;rcases h with h|h
 ·obtain⟨z,k,p,rfl,h⟩:=fJ h;obtain⟨s,hs,h⟩:=ob h;cases h;exact LW (gM (j.e o) hs).1
 ·obtain⟨z,p,rfl,h⟩:=FG h;obtain⟨s,hs,h⟩:=ob h;cases h;exact L4 _ (gM (j.e o) hs).1
def Ca (g:G)(x:Str):Option (List (Str×Nat)):=if g4 g x=true then(match g.T.lookup x with|some (.dct fs)=>some fs|_=>none) else none
set_option tactic.hygienic true in
def ue (o:dF fa n g X)(h:Ca g x=some fs):(∃ad j,X.mg x=some (.ref ad)/\fc X.K X.w.params ad j/\dZ fa j fs)/\Gl X x/\(x==("__debug__":Str))=false:=by
 obtain⟨c,h⟩:=oi h;split at h
 ·next e=>cases h;exact{o.T.dct e,cH o c}
 ·cases h
def Ce (R:Rc)(g:G)(e:Expr):Option GE:=IS e λa h bs _=>
 (n2 h λq r=>n2 bs λb c=>if 0<g.lv/\behindInMarks r c=false then(R.e g a).bind λy=>(R.e g b).bind λz=>(R.e g c).bind λu=>some (tZ (fy q) (fy r) y z u) else none).or
 (n1 h λq=>n1 bs λb=>(if fy q=.notin then nName b λx _=>(Ca g x).bind λfs=>(R.e g a).bind λy=>some (iu fs y) else none).or
  (if 0<g.lv/\behindInMarks q b=false then(R.e g a).bind λy=>(R.e g b).bind λz=>some (aH (fy q) y z) else none))
def Hf:dE:=Ce
def tf (h:fy q=.notin):q=.NotIn:=(cW q).symm.trans (congrArg ec h)
def EA:SE Hf:=by
 intro fa n R j g X o a F h;replace h:=pV h;obtain⟨a,H,bs,p,rfl,h⟩:=h;replace h:=bI h;rcases h with h|h
 ·replace h:=ik h;obtain⟨q,r,rfl,h⟩:=h;obtain⟨b,d,rfl,h⟩:=ik h;obtain⟨c,h⟩:=oi h;replace h:=ob h;obtain⟨y,v,h⟩:=h;replace h:=ob h;obtain⟨z,B,h⟩:=h;replace h:=ob h;obtain⟨u,E,h⟩:=h;cases h;have:=Mb (o.rm c.1) (fy q) (fy r) (j.e o v) (j.e o B) (j.e o E) (by rw[cW,cW];exact c.2) (pos:=p)
  rw[cW,cW] at this;exact this
 replace h:=b5 h;obtain⟨q,rfl,h⟩:=h;replace h:=b5 h;obtain⟨b,rfl,h⟩:=h;replace h:=bI h;rcases h with h|h
 ·replace h:=oi h;obtain⟨c,h⟩:=h;obtain⟨x,_,rfl,h⟩:=cb h;obtain⟨fs,e,h⟩:=ob h;obtain⟨y,v,h⟩:=ob h;cases h;obtain⟨d,e1,e2⟩:=ue o e;rw[tf c];exact Ff d e1 e2 (j.e o v) rfl
 ·obtain⟨c,h⟩:=oi h;obtain⟨y,v,h⟩:=ob h;obtain⟨z,B,h⟩:=ob h;cases h;have:=Ma (o.rm c.1) (fy q) (j.e o v) (j.e o B) (by rw[cW];exact c.2) (pos:=p)
  rw[cW] at this;exact this
noncomputable def Ng:Expr->Bool
 |.Compare ..=>false
 |.BoolOp ..=>false
 |.UnaryOp ..=>false
 |.IfExp ..=>false
 |_=>true
def vT:D6:=λR g e=>((Ce R g e).bind λx=>some (aq x)).or
 ((C6 e λq h _ => match q with
   |.And=>sm (R.t g) d8 h
   |.Or=>sm (R.t g) ff h).or
 ((MK e λq a _ => match q with
   |.Not=>(R.t g a).bind λx=>some (b3 x)
   |_=>none).or (if Ng e=true then(R.e g e).bind λx=>some (aq x) else none)))
def Es (j:gG fa n R)(o:dF fa n g X)(h:Ce R g a=some ga):DT fa X a (aq ga):=by
 replace h:=pV h;obtain⟨a,F,bs,p,rfl,h⟩:=h;replace h:=bI h;rcases h with h|h
 ·replace h:=ik h;obtain⟨q,r,rfl,h⟩:=h;obtain⟨b,d,rfl,h⟩:=ik h;obtain⟨c,h⟩:=oi h;replace h:=ob h;obtain⟨y,v,h⟩:=h;replace h:=ob h;obtain⟨z,B,h⟩:=h;replace h:=ob h;obtain⟨u,E,h⟩:=h;cases h;have:=JN (o.rm c.1) (fy q) (fy r) (j.e o v) (j.e o B) (j.e o E) (by rw[cW,cW];exact c.2) (pos:=p)
  rw[cW,cW] at this;exact this
 replace h:=b5 h;obtain⟨q,rfl,h⟩:=h;replace h:=b5 h;obtain⟨b,rfl,h⟩:=h;replace h:=bI h;rcases h with h|h
 ·replace h:=oi h;obtain⟨c,h⟩:=h;obtain⟨x,_,rfl,h⟩:=cb h;obtain⟨fs,e,h⟩:=ob h;obtain⟨y,v,h⟩:=ob h;cases h;obtain⟨d,e1,e2⟩:=ue o e;rw[tf c];exact Fi d e1 e2 (j.e o v) rfl
 ·obtain⟨c,h⟩:=oi h;obtain⟨y,v,h⟩:=ob h;obtain⟨z,B,h⟩:=ob h;cases h;have:=JM (o.rm c.1) (fy q) (j.e o v) (j.e o B) (by rw[cW];exact c.2) (pos:=p)
  rw[cW] at this;exact this
def KJ:ST vT:=by
 intro fa n R u g X o a y h;replace h:=bI h;rcases h with h|h
 ·obtain⟨x,j,h⟩:=ob h;cases h;exact Es u o j
 replace h:=bI h;rcases h with h|h
 ·obtain⟨q,v,p,rfl,h⟩:=tu h;cases q with
  |And=>exact PW.pt (u3 (u.t o) h)
  |Or=>exact PW.pt (yp (u.t o) h)
 replace h:=bI h;rcases h with h|h
 ·obtain⟨q,a,p,rfl,h⟩:=zk h;cases q with
  |Not=>obtain⟨x,j,h⟩:=ob h;cases h;exact JK (u.t o j)
  |_=>cases h
 ·obtain⟨c,h⟩:=oi h;obtain⟨x,j,h⟩:=ob h;cases h;exact B5 (u.e o j) λ_=>by cases a<;>first|rfl|cases c
noncomputable def Aq:hJ:=λ_ _ st=>match st with
 |.Raise ..=>some wH
 |_=>none
def Ef:SS Aq:=λ{fa n R} _ {g X} _ {a j} h=>by
 unfold Aq at h;split at h
 ·cases h;exact JS
 ·cases h
noncomputable def iW:Expr->Bool
 |.Slice ..=>false
 |_=>true
def iV (h:iW b=true):fP b:=by
 intro x i;cases b<;>first|rfl|cases h
noncomputable def cO (f:Expr->Option GE):Option Expr->Option GE
 |none=>some (gC .non)
 |some a=>f a
def DU (hf:∀{a:Expr}{j:GE},f a=some j->DE fa X a j)(h:cO f q=some ge):DO fa X q q.isSome ge:=by
 cases q with
 |none=>cases h;exact Gb
 |some a=>exact Ga (hf h)
def G8:dE:=λR g e=>nI e λa b _=>nName a λx _=>(Ca g x).bind λfs=>if iW b=true then(R.e g b).bind λy=>some (kD fs y) else none
def Eu:SE G8:=by
 intro fa n R u g X o a v h;replace h:=gx h;obtain⟨a,b,p,rfl,h⟩:=h;replace h:=cb h;obtain⟨x,q,rfl,h⟩:=h;obtain⟨fs,e,h⟩:=ob h;obtain⟨c,h⟩:=oi h;obtain⟨y,j,h⟩:=ob h;cases h;obtain⟨d,e1,e2⟩:=ue o e;exact Fg d e1 e2 (u.e o j) (iV c)
def Hb:dE:=λR g e=>nI e λa b p=>(IK b λlo h st _=>if st.isNone=true/\g.tx p=false then(R.e g a).bind λx=>(cO (R.e g) lo).bind λy=>(cO (R.e g) h).bind λz=>some (bN (g.cl p) lo.isSome h.isSome x y z) else none).or
 (if iW b=true then(R.e g a).bind λx=>(R.e g b).bind λy=>some (aS x y) else none)
def Ey:SE Hb:=by
 intro fa n R j g X o a E h;replace h:=gx h;obtain⟨a,b,p,rfl,h⟩:=h;replace h:=bI h;rcases h with h|h
 ·obtain⟨lo,F,st,p2,rfl,h⟩:=vE h;obtain⟨⟨c,_⟩,h⟩:=oi h;replace h:=ob h;obtain⟨x,u,h⟩:=h;replace h:=ob h;obtain⟨y,v,h⟩:=h;replace h:=ob h;obtain⟨z,B,h⟩:=h;cases h;rw[Rf.mp c];exact LY _ _ _ (j.e o u) (DU (j.e o) v) (DU (j.e o) B)
 ·obtain⟨c,h⟩:=oi h;obtain⟨x,u,h⟩:=ob h;obtain⟨y,v,h⟩:=ob h;cases h;exact L7 (j.e o u) (j.e o v) (iV c)
noncomputable def lx (g:G)(x:Str):Option Nat:=if (g.sc.names.lookup x==some .local||(g.sc.names.lookup x==some .cell&&(g.lv != 1||g.oc.contains x)))=true then g.N.findIdx? (·==x) else none
def C7 (g:G):List Expr->Option (List Nat)
 |[]=>some []
 |e::r=>nName e λx _=>(lx g x).bind λi=>(C7 g r).bind λl=>some (i::l)
def cG (g:G)(e:Expr):Option fg:=(nName e λx _=>(lx g x).bind λi=>some (.one i)).or (pT e λh _ _=>if 0<g.lv then((C7 g h).bind λl=>some (.tup l)).or (n2 h λa b=>nName a λx _=>pT b λbs _ _=>(lx g x).bind λi=>(C7 g bs).bind λl=>some (.two i l)) else none)
section
variable{fa:Fa}{n:Nat}{g:G}{X:Cx}{R:Rc}(o:dF fa n g X)
include o
theorem rS (h:lx g x=some i):X.N[i]?=some x/\L2.Loc X.env.scope x/\(X.fn x=true\/X.env.scope.names.lookup x=some .local):=by
 obtain⟨c,h⟩:=oi h;rw[QJ,O3] at c;refine{w6 o h,?_,?_}
 ·unfold L2.Loc;rw[o.sc];rcases c with z|z
  ·exact .inl (eq_of_beq z)
  ·exact .inr (eq_of_beq z.1)
 ·rcases c with z|z
  ·right;rw[o.sc];exact eq_of_beq z
  ·rcases Bool.or_eq_true_iff.mp z.2 with q|q
   ·exact .inl (o.fn (by simpa using q) x)
   ·exact .inl (o.oc x (List.contains_iff_mem.mp q))
theorem tG:∀{es:List Expr}{l:List Nat},C7 g es=some l->iA X l es
 |[],_,h=>by cases h;exact .nil
 | e :: r, _, h => by
   replace h:=cb h;obtain⟨x,p,rfl,h⟩:=h;obtain⟨i,j,h⟩:=ob h;obtain⟨l,hl,h⟩:=ob h;cases h;obtain⟨a,b,c⟩:=rS o j;exact .cons a b c (tG hl)
theorem ix (h:cG g t=some tt):PG X t (gT fa X.K tt):=by
 replace h:=bI h;rcases h with h|h
 ·obtain⟨x,p,rfl,h⟩:=cb h;replace h:=ob h;obtain⟨i,j,h⟩:=h;cases h;obtain⟨a,b,c⟩:=rS o j;exact Gj (o.N ▸ o.nd) a b c
 ·replace h:=fJ h;obtain⟨v,k,p,rfl,h⟩:=h;replace h:=oi h;obtain⟨c,h⟩:=h;replace h:=bI h;rcases h with h|h
  ·obtain⟨l,hl,h⟩:=ob h;cases h;exact J3 (o.calm c) (o.N ▸ o.nd) (tG o hl)
  ·obtain⟨a,b,rfl,h⟩:=ik h;replace h:=cb h;obtain⟨x,y,rfl,h⟩:=h;replace h:=fJ h;obtain⟨bs,k2,p2,rfl,h⟩:=h;obtain⟨i,j,h⟩:=ob h;obtain⟨l,hl,h⟩:=ob h;cases h;obtain⟨e1,e2,u⟩:=rS o j;exact J2 (o.calm c) (o.N ▸ o.nd) e1 e2 u (tG o hl)
end
def cB (nm:Str)(R:Rc)(g:G)(e:Expr):Option (List Expr×GA):=lI e λx h _=>nC h λa h=>if x=nm/\g4 g x=true/\(match g.T.lookup x with|some .bl=>true|_=>false)=true/\0<g.lv then(cA (R.e g) (a::h)).bind λj=>some (a::h,j) else none
def kK {g:G}(h:(match g.T.lookup x with|some .bl=>true|_=>false)=true):g.T.lookup x=some .bl:=by
 split at h
 ·assumption
 ·cases h
def oY (B:gG fa n R)(o:dF fa n g X)(h:cB nm R g e=some (as,u)):∃p pos a es,as=a::es/\e=.Call (.Name nm p) (a::es) [] pos/\Gl X nm/\X.mg nm=none/\0<g.lv/\DA fa X (a::es) u/\notStar a=true/\es.all notStar=true:=by
 replace h:=fm h;obtain⟨x,q,es,p,rfl,h⟩:=h;replace h:=gL h;obtain⟨a,es,rfl,h⟩:=h;replace h:=oi h;obtain⟨⟨rfl,v,y,z⟩,h⟩:=h;obtain⟨u,j,h⟩:=ob h;cases h;obtain⟨d,ns⟩:=gM (B.e o) j;rw[Qb,O3] at ns;exact{_,_,_,_,rfl,rfl,(cH o v).1,o.T.bl (kK y),z,d,ns.1,ns.2}
def Ha:dE:=λR g e=>(cB "len" R g e).bind λq=>some (aA .len q.2)
def Ex:SE Ha:=λ{fa n R} v {g X} o {a z} h=>by
 obtain⟨⟨y,B⟩,u,h⟩:=ob h;cases h;obtain⟨_,_,_,_,_,rfl,j,hm,_,d,n1,n2⟩:=oY v o u;exact xq .len LJ j hm PySem.boot_len d `d `d (ba n1) (cP n2)
def Hh:dE:=λR g e=>(cB "all" R g e).bind λq=>some (aA .all q.2)
def EC:SE Hh:=λ{fa n R} v {g X} o {a z} h=>by
 obtain⟨⟨y,B⟩,u,h⟩:=ob h;cases h;obtain⟨_,_,_,_,_,rfl,j,hm,lv,d,n1,n2⟩:=oY v o u;exact xq .all (LL (o.calm lv)) j hm `k d `d `d (ba n1) (cP n2)
def G7:dE:=λR g e=>(cB "sum" R g e).bind λq=>some (aA .sum q.2)
def Et:SE G7:=λ{fa n R} v {g X} o {a z} h=>by
 obtain⟨⟨y,B⟩,u,h⟩:=ob h;cases h;obtain⟨_,_,_,_,_,rfl,j,hm,lv,d,n1,n2⟩:=oY v o u;exact xq .sum (LI (o.calm lv)) j hm `k d `d `d (ba n1) (cP n2)
def ya:dE:=λR g e=>(cB "tuple" R g e).bind λq=>some (aA .tuple q.2)
def xZ:SE ya:=λ{fa n R} v {g X} o {a z} h=>by
 obtain⟨⟨y,B⟩,u,h⟩:=ob h;cases h;obtain⟨_,_,_,_,_,rfl,j,hm,_,d,n1,n2⟩:=oY v o u;exact zU .tuple FY j hm `k d `d `d (ba n1) (cP n2)
def CH:dE:=λR g e=>(cB "list" R g e).bind λq=>some (aA (.list (g.cl e.pos)) q.2)
def AG:SE CH:=λ{fa n R} v {g X} o {a z} h=>by
 obtain⟨⟨y,B⟩,u,h⟩:=ob h;cases h;obtain⟨_,_,_,_,_,rfl,j,hm,_,d,n1,n2⟩:=oY v o u;exact zU (.list _) (Jx _) j hm `k d `d `d (ba n1) (cP n2)
def cR (R:Rc)(g:G)(nm:Str)(e:Expr):Option (Expr×GE):=lI e λx h _=>n1 h λa=>if x=nm/\g4 g x=true/\(match g.T.lookup x with|some .bl=>true|_=>false)=true/\0<g.lv/\notStar a=true then(R.e g a).bind λy=>some (a,y) else none
def oX (E:gG fa n R)(o:dF fa n g X)(h:cR R g nm e=some (a,ga)):∃p pos,e=.Call (.Name nm p) [a] [] pos/\Gl X nm/\X.mg nm=none/\0<g.lv/\DE fa X a ga/\starEach [a] X.env=[(false,eval a X.env)]:=by
 replace h:=fm h;obtain⟨x,q,F,p,rfl,h⟩:=h;replace h:=b5 h;obtain⟨a,rfl,h⟩:=h;replace h:=oi h;obtain⟨⟨rfl,j,u,v,z⟩,h⟩:=h;obtain⟨y,B,h⟩:=ob h;cases h;exact{_,_,rfl,(cH o j).1,o.T.bl (kK u),v,E.e o B,ba z}
def yc:dE:=λR g e=>lI e λx h p=>n1 h λb=>if x="list"/\g4 g x=true/\(match g.T.lookup x with|some .bl=>true|_=>false)=true then(cR R g "range" b).bind λq=>some (lU (g.cl p) q.2) else none
def yb:SE yc:=λ{fa n R} B {g X} o {a F} h=>by
 replace h:=fm h;obtain⟨x,q,E,p,rfl,h⟩:=h;replace h:=b5 h;obtain⟨b,rfl,h⟩:=h;replace h:=oi h;obtain⟨⟨rfl,j,u⟩,h⟩:=h;obtain⟨⟨b,y⟩,z,h⟩:=ob h;cases h;obtain⟨_,_,rfl,v,hm,lv,d,hs⟩:=oX B o z;exact Fd _ (o.calm lv) d (cH o j).1 (o.T.bl (kK u)) v hm hs rfl
def AN (x:Str):Option Ty:=if x="int" then some .int else if x="bool" then some .bool else if x="str" then some .str else if x="tuple" then some .tuple else if x="list" then some .list else none
def ED (h:AN x=some t):bootBuiltins x=some (.type (tyName t))/\(∀c,t≠.own c)/\x≠"__name__"/\(x==("__debug__":Str))=false:=by
 unfold AN at h;split at h
 ·subst x;cases h;exact{`k,(λ_ z=>nomatch z),`d,`d}
 split at h
 ·subst x;cases h;exact{`k,(λ_ z=>nomatch z),`d,`d}
 split at h
 ·subst x;cases h;exact{`k,(λ_ z=>nomatch z),`d,`d}
 split at h
 ·subst x;cases h;exact{`k,(λ_ z=>nomatch z),`d,`d}
 split at h
 ·subst x;cases h;exact{`k,(λ_ z=>nomatch z),`d,`d}
 ·cases h
def cI (R:Rc)(g:G)(e:Expr):Option (Str×GE):=lI e λy h _=>n2 h λa b=>nName b λx _=>if y="isinstance"/\g4 g y=true/\(match g.T.lookup y with|some .bl=>true|_=>false)=true/\g4 g x=true/\notStar a=true then(R.e g a).bind λz=>some (x,z) else none
def Mj (F:gG fa n R)(o:dF fa n g X)(h:cI R g e=some (x,ga)):∃p q a pos,e=.Call (.Name "isinstance" p) [a,.Name x q] [] pos/\Gl X "isinstance"/\X.mg "isinstance"=none/\Gl X x/\(x==("__debug__":Str))=false/\DE fa X a ga/\starEach [a,.Name x q] X.env=(false,eval a X.env)::starEach [.Name x q] X.env:=by
 replace h:=fm h;obtain⟨y,q,H,p,rfl,h⟩:=h;replace h:=ik h;obtain⟨a,b,rfl,h⟩:=h;replace h:=cb h;obtain⟨x,I,rfl,h⟩:=h;replace h:=oi h;obtain⟨⟨rfl,u,v,j,B⟩,h⟩:=h;obtain⟨z,E,h⟩:=ob h;cases h;exact{_,_,_,_,rfl,(cH o u).1,o.T.bl (kK v),(cH o j).1,(cH o j).2,F.e o E,ba B}
def CI:dE:=λR g e=>(cI R g e).bind λq=>if (match g.T.lookup q.1 with|some .bl=>true|_=>false)=true then(AN q.1).bind λt=>some (f5 t q.2) else none
def AH:SE CI:=λ{fa n R} I {g X} o {a J} h=>by
 obtain⟨⟨x,z⟩,E,h⟩:=ob h;obtain⟨c,h⟩:=oi h;obtain⟨t,F,h⟩:=ob h;cases h;obtain⟨_,_,_,_,rfl,B,hm,H,hd,d,hs⟩:=Mj I o E;obtain⟨j,u,v,y⟩:=ED F;exact J8 t u d B hm `k H (o.T.bl (kK c)) j v y hs
def CN:dE:=λR g e=>lI e λx h _=>nC h λa h=>if 0<g.lv then(match vr g x with
 |some i=>(cA (R.e g) (a::h)).bind λj=>some (lW i g.c j)
 | none => if g4 g x = true then(match g.T.lookup x with
   |some (.fn i _)=>(cA (R.e g) (a::h)).bind λj=>some (ah i g.c j)
   |_=>none) else none) else none
set_option tactic.hygienic true in
def AL:SE CN:=λ{fa n R} u {g X} o {a E} h=>by
 replace h:=fm h;obtain⟨x,q,z,p,rfl,h⟩:=h;replace h:=gL h;obtain⟨a,z,rfl,h⟩:=h
 ·obtain⟨lv,h⟩:=oi h;split at h
  ·next e=>
   obtain⟨B,j,h⟩:=ob h;cases h;obtain⟨d,ns⟩:=gM (u.e o) j;rw[Qb,O3] at ns;obtain⟨a,b,v,y⟩:=CB o e;exact Gr (o.C lv) ((o.hr lv).mono (Rk _)) a b d v y (ba ns.1) (cP ns.2)
  ·obtain⟨c,h⟩:=oi h;split at h
   ·next e=>
    obtain⟨B,j,h⟩:=ob h;cases h;obtain⟨d,ns⟩:=gM (u.e o) j;rw[Qb,O3] at ns;exact Kc (o.C lv _) ((o.hr lv).mono (Rk _)) (cH o c).1 (o.T.fn e) d (cH o c).2 (ba ns.1) (cP ns.2)
   ·cases h
def Cw:dE:=λR g e=>(lI e λx h _=>nC h λa h=>if 2<=g.lv/\g4 g x=true then(match g.T.lookup x with
 |some (.fn i true)=>(cA (R.e g) (a::h)).bind λj=>some (bf i g.c j)
 |_=>none) else none).or (IL e λc a b _=>(R.x g a).bind λx=>(R.x g b).bind λy=>(R.t g c).bind λt=>some (xh t x y))
set_option tactic.hygienic true in
def As:SX Cw:=λ{fa n R} j {g X} o {a F} h=>by
 replace h:=bI h;rcases h with h|h
 ·obtain⟨x,q,v,p,rfl,h⟩:=fm h;obtain⟨a,v,rfl,h⟩:=gL h;replace h:=oi h;obtain⟨⟨lv,c⟩,h⟩:=h;split at h
  ·next e=>
   replace h:=ob h;obtain⟨H,u,h⟩:=h;cases h;obtain⟨d,ns⟩:=gM (j.e o) u;rw[Qb,O3] at ns;exact x_call _ (o.C `a) ((o.hr `a).mono (Rk _)) (o.top lv).1 (cH o c).1 (o.T.fn e) d (cH o c).2 ns.1 ns.2
  ·cases h
 ·obtain⟨c,a,b,p,rfl,h⟩:=vF h;obtain⟨x,B,h⟩:=ob h;obtain⟨y,E,h⟩:=ob h;obtain⟨t,z,h⟩:=ob h;cases h;exact KG (j.t o z) (j.x o B) (j.x o E)
def xT:dE:=λR g e=>lI e λx h _=>n1 h λa=>if 2<=g.lv/\g4 g x=true/\notStar a=true then(match g.T.lookup x with
 |some (.fnD i)=>(R.e g a).bind λy=>some (bf i g.c (b7 y (b7 (gC .non) bx)))
 |_=>none) else none
set_option tactic.hygienic true in
def xS:SX xT:=λ{fa n R} u {g X} o {a z} h=>by
 replace h:=fm h;obtain⟨x,q,v,p,rfl,h⟩:=h;replace h:=b5 h;obtain⟨a,rfl,h⟩:=h;replace h:=oi h;obtain⟨⟨lv,c,st⟩,h⟩:=h;split at h
 ·next e=>
  replace h:=ob h;obtain⟨y,j,h⟩:=h;cases h;exact Ek _ (o.C `a) ((o.hr `a).mono (Rk _)) (o.top lv).1 (cH o c).1 (o.T.fnD e).1 (o.T.fnD e).2 (u.e o j) (cH o c).2 st
 ·cases h
noncomputable def jS:Expr->Bool
 |.Call _ [] _ _=>false
 |_=>true
def fO (h:jS a=true):attributeBase a m env w=w:=by
 cases a with
 | Call f j ks p =>
   cases j with
   |nil=>cases h
   |cons _ _=>cases f<;>rfl
 |_=>rfl
def Mw:dE:=λR g e=>NH e λl _=>nC l λa l=>n2 l λb c=>Bz a λz=>MN b λb=>Bz c λy=>(R.e g b).bind λx=>some (mZ z y x)
def Hd:SE Mw:=λ{fa n R} u {g X} o {a v} h=>by
 replace h:=FH h;obtain⟨l,p,rfl,h⟩:=h;replace h:=gL h;obtain⟨a,l,rfl,h⟩:=h;replace h:=ik h;obtain⟨b,c,rfl,h⟩:=h;replace h:=vD h;obtain⟨z,_,_,rfl,h⟩:=h;replace h:=IM h;obtain⟨b,_,rfl,h⟩:=h;replace h:=vD h;obtain⟨y,_,_,rfl,h⟩:=h;obtain⟨x,j,h⟩:=ob h;cases h;exact Nz (u.e o j)
def Cz:uK:=λR g _ e=>(cR R g "range" e).bind λq=>some (eI q.2)
def AA:SW Cz:=λ{z n R} v {g X} o {t a B} h=>by
 obtain⟨⟨b,y⟩,u,h⟩:=ob h;cases h;obtain⟨_,_,rfl,j,hm,_,d,hs⟩:=oX v o u;exact Gh d j hm hs
def CA:uK:=λR g t e=>pT t λ_ _ _=>(cR R g "enumerate" e).bind λq=>some (ir q.2)
def AB:SW CA:=λ{z n R} v {g X} o {t a B} h=>by
 replace h:=fJ h;obtain⟨_,_,_,rfl,h⟩:=h;obtain⟨⟨b,y⟩,u,h⟩:=ob h;cases h;obtain⟨_,_,rfl,j,hm,_,d,hs⟩:=oX v o u;exact Gi d j hm hs
def cN (R:Rc)(g:G)(nm:Str)(e:Expr):Option (List Expr):=lI e λx h _=>if x=nm/\g4 g x=true/\(match g.T.lookup x with|some .bl=>true|_=>false)=true/\0<g.lv/\h.all notStar=true then some h else none
def Mi (o:dF fa n g X)(h:cN R g nm e=some es):∃p pos,e=.Call (.Name nm p) es [] pos/\Gl X nm/\X.mg nm=none/\es.all notStar=true:=by
 replace h:=fm h;obtain⟨x,q,es,p,rfl,h⟩:=h;replace h:=oi h;obtain⟨⟨rfl,j,u,y,v⟩,h⟩:=h;cases h;exact{_,_,rfl,(cH o j).1,o.T.bl (kK u),v}
def og:∀{es:List Expr},es.all notStar=true->starEach es env=es.map λa=>(false,eval a env)
 |[],_=>rfl
 | a :: es, h => by
   rw[Qb,O3] at h;rw[ba h.1,og h.2];rfl
def Cy:uK:=λR g t e=>pT t λ_ _ _=>(cN R g "zip" e).bind λh=>nC h λa h=>n2 h λb c=>(R.e g a).bind λx=>(R.e g b).bind λy=>(R.e g c).bind λz=>some (mI x y z)
def Az:SW Cy:=λ{J n R} j {g X} o {t a L} h=>by
 replace h:=fJ h;obtain⟨_,_,_,rfl,h⟩:=h;obtain⟨u,B,k⟩:=ob h;clear h;obtain⟨_,_,rfl,v,hm,ns⟩:=Mi o B;replace k:=gL k;obtain⟨a,u,rfl,k⟩:=k;replace k:=ik k;obtain⟨b,c,rfl,k⟩:=k;obtain⟨x,E,k⟩:=ob k;obtain⟨y,F,k⟩:=ob k;obtain⟨z,H,k⟩:=ob k;cases k;have n2:=(QV.mp (Qb ▸ ns)).2;have I:=(QV.mp (Qb ▸ n2)).2;exact Gg (j.e o E) (j.e o F) (j.e o H) v hm (og ns) (og n2) (og I)
def G1:uK:=λR g _ e=>if g.tx e.pos=false then(R.e g e).bind λx=>some (dA x) else none
def Em:SW G1:=λ{v n R} u {g X} o {t a y} h=>by
 obtain⟨_,h⟩:=oi h;obtain⟨x,j,h⟩:=ob h;cases h;exact J0 (u.e o j)
noncomputable def iX:Expr->Bool
 |.Set ..=>false
 |_=>true
def t4 (h:iX a=true)(x:OX):foldedSetIterable a env x=pure x:=by
 cases a<;>first|rfl|cases h
noncomputable def wJ:Expr->List Str
 |.Name x _=>[x]
 |.Tuple h _ _=>(h.map fun|.Name x _=>[x]|.Tuple bs _ _=>bs.filterMap (fun|.Name x _=>some x|_=>none)|_=>[]).flatten
 |_=>[]
noncomputable def uy (g:G)(own:List Str):List Str:=g.N.map λx=>if own.contains x then x++("%":Str) else x
noncomputable def Bk (h sc:Scope):Scope:={h with names:=h.names.map λ(n,k)=>if (k==.free&&sc.kind==.function&&sc.names.lookup n==some .cell) then(n,.cell) else(n,k)}
def G.inC (g:G)(own:List Str)(h:Scope):G:={g with N:=own++uy g own,sc:=Bk h g.sc,lv:=1,oc:=(h.names.filter λy=>h.names.lookup y.1==some .cell).map (·.1)}
def vm (g:G)(own:List Str)(h:Scope):Prop:=0<g.lv/\h.kind=.function/\qk (uy g own) g.N g.sc h=true/\(own++uy g own).Nodup
instance (g:G) (own:List Str) (scope:Scope):Decidable (vm g own scope):=by unfold vm;infer_instance
def xr (o:dF fa n g X)(c:vm g own scope):eU X own (uy g own) scope/\∀cl C j s H,dF fa n (g.inC own scope) (fq X own (uy g own) scope cl C j s H):=by
 obtain⟨h,u,v,B⟩:=c;refine{zY u o.sc o.N v,λcl C j s H=>{rfl,B,?_,o.T,o.tw,o.xf,o.ms,(λz=>absurd rfl z),(λx E=>by obtain⟨y,F,e⟩:=Pf.mp E;subst e;exact(Q6.mp F).2),λ_=>o.calm h,λ_=>o.C h,λ_=>o.hr h,(λz=>absurd (show 2<=1 from z) `d),(λz=>nomatch z)}}
 show relabel scope X.env=Bk scope g.sc;unfold relabel Bk Env.kindOf;rw[o.sc]
structure Kz (fa:Fa) (X:Cx) (e:Expr) (k:Nat) (t:fg) (gw:GW) (gb:GB):Prop where
 ex:∃elt tg iter ifs rest scope pos own bn W body,e=.ListComp elt ({tg,iter,ifs,0}::rest) scope pos/\k=own.length/\eU X own bn scope/\DI fa X tg iter gw/\Block fa X (LA fa X.K) own bn scope tg t W body gb/\pA X elt tg iter ifs rest scope pos body/\(∀i∈W,i∉slots t)/\(∀i∈slots t++W,i<own.length)/\∀x,foldedSetIterable iter X.env x=pure x
def cC (R:Rc)(g:G)(e:Expr):Option (Nat×fg×GW×GB):=MM e λB y h _=>(n1 y λc=>nG c λz j v=>let own:=wJ z
 if vm g own h/\iX j=true then(R.w g z j).bind λw=>(cG (g.inC own h) z).bind λt=>(R.e (g.inC own h) B).bind λx=>if (slots t).all (· < own.length)=true then(n0 v (some (own.length,t,w,cy x))).or (n1 v λc=>(R.t (g.inC own h) c).bind λq=>some (own.length,t,w,M8 q (cy x))) else none else none).or
 (n2 y λc d=>nG c λz j v=>nG d λt2 F E=>let own:=wJ z++wJ t2
  n0 v (n0 E (if vm g own h/\iX j=true/\iX F=true then(R.w g z j).bind λw=>(cG (g.inC own h) z).bind λt=>(R.w (g.inC own h) t2 F).bind λw2=>(cG (g.inC own h) t2).bind λu=>(R.e (g.inC own h) B).bind λx=>if (slots t++slots u).all (· < own.length)=true/\(slots u).all (λi=>!(slots t).contains i)=true then some (own.length,t,w,tX u w2 (cy x)) else none else none)))
def DV (z:gG fa n R)(o:dF fa n g X)(h:cC R g e=some (k,t,gw,gb)):Kz fa X e k t gw gb:=by
 replace h:=zl h;obtain⟨B,gens,E,p,rfl,h⟩:=h;replace h:=bI h;rcases h with h|h
 ·replace h:=b5 h;obtain⟨c,rfl,h⟩:=h;replace h:=rP h;obtain⟨tg,y,Y,rfl,h⟩:=h;replace h:=oi h;obtain⟨⟨c,J⟩,h⟩:=h;replace h:=ob h;obtain⟨w,M,h⟩:=h;replace h:=ob h;obtain⟨t,L,h⟩:=h;replace h:=ob h;obtain⟨x,P,h⟩:=h;replace h:=oi h;obtain⟨I,h⟩:=h;obtain⟨S,O⟩:=xr o c;replace h:=bI h;rcases h with h|h
  ·obtain⟨rfl,h⟩:=eG h;cases h;exact{_,_,_,_,_,_,_,_,_,[],(λa env=>eval B env >>= λx=>call (.builtin "list.append") [.ref a,x] >>= λ_=>pure ()),rfl,rfl,S,z.w o M,{λcl C v s H=>ix (O cl C v s H) L,λcl C v s H a=>uf (z.e (O cl C v s H) P)},(λF a env=>AS _ _ _ [] _ _ (.ref F) (.ref a) env),(λi h=>nomatch h),(by simpa using kc I),t4 J}
  ·obtain⟨d,rfl,h⟩:=b5 h;obtain⟨q,hq,h⟩:=ob h;cases h;exact{_,_,_,_,_,_,_,_,_,[],(λa env=>PySem.isTrue d env (eval d env) >>= λok=>if ok=true then(eval B env >>= λx=>call (.builtin "list.append") [.ref a,x] >>= λ_=>pure ()) else pure ()),rfl,rfl,S,z.w o M,{λcl C v s H=>ix (O cl C v s H) L,λcl C v s H a=>LU LA.stab (z.t (O cl C v s H) hq) (uf (z.e (O cl C v s H) P))},(λF a env=>turn_if _ _ _ _ _ _ (.ref F) (.ref a) env),(λi h=>nomatch h),(by simpa using kc I),t4 J}
 ·replace h:=ik h;obtain⟨c,d,rfl,h⟩:=h;replace h:=rP h;obtain⟨tg,y,Y,rfl,h⟩:=h;replace h:=rP h;obtain⟨t2,Q,ifs2,rfl,h⟩:=h;replace h:=eG h;obtain⟨rfl,h⟩:=h;replace h:=eG h;obtain⟨rfl,h⟩:=h;obtain⟨⟨c,J,U⟩,h⟩:=oi h;obtain⟨w,M,h⟩:=ob h;obtain⟨t,L,h⟩:=ob h;obtain⟨w2,W,h⟩:=ob h;obtain⟨u,hu,h⟩:=ob h;obtain⟨x,P,h⟩:=ob h;obtain⟨⟨I,c3⟩,h⟩:=oi h;cases h;obtain⟨S,O⟩:=xr o c;exact{_,_,_,_,_,_,_,_,_,slots u,(λa env=>eval Q env >>= λx=>standAt Q.pos >>= λ_=>foldedSetIterable Q env x >>= λx=>holding [x] (pyIter x) >>= λj=>runOwn (.compStart (.ListComp B [{tg,y,[],0},{t2,Q,[],0}] E p) 1 j (.ref a) env) env >>= λ_=>pure ()),rfl,rfl,S,z.w o M,{λcl C v s H=>ix (O cl C v s H) L,λcl C v s H a=>J4 rfl (o.calm c.1) (z.w (O cl C v s H) W) (ix (O cl C v s H) hu) (z.e (O cl C v s H) P) (t4 U)},(λF a env=>AQ _ _ _ _ _ _ _ (.ref F) (.ref a) env),yK c3,kc I,t4 J}
def CM:dE:=λR g e=>if 0<g.lv then(cC R g e).bind λq=>some (cz (g.cl e.pos) q.1 q.2.1 q.2.2.1 q.2.2.2) else none
def AK:SE CM:=λ{J n R} H {g X} o {a L} h=>by
 obtain⟨lv,h⟩:=oi h;obtain⟨⟨k,t,w,b⟩,z,h⟩:=ob h;cases h;obtain⟨v,M,u,E,rest,j,F,own,I,W,body,rfl,rfl,S,y,B,T,h1,h2,h3⟩:=(DV H o z).ex;exact Kb _ S (o.calm lv) y B T h1 h2 h3
def oW (f:Stmt->Option GS):List Stmt->Option GS
 |[]=>some aE
 |a::r=>(f a).bind λx=>(oW f r).bind λy=>some (aT x y)
def g9 (hf:∀{a:Stmt}{j:GS},f a=some j->DS fa X a j):∀{ss:List Stmt}{u:GS},oW f ss=some u->j7 fa X ss u
 |[],_,h=>by cases h;exact vV
 | a :: r, _, h => by
   obtain⟨x,v,h⟩:=ob h;obtain⟨y,z,h⟩:=ob h;cases h;exact B6 (hf v) (g9 hf z)
noncomputable def mC:Expr->Bool
 |.ListComp ..=>false
 |.SetComp ..=>false
 |.DictComp ..=>false
 |_=>true
def vt (h:mC a=true):swapsWith a t l env=pure false:=by
 cases a<;>first|rfl|cases h
def Kl (g:G)(h a:Expr):Bool:=match a with
 |.ListComp ..=>(match h with|.Name y _=>g.sc.names.lookup y==some .cell|_=>false)
 |.Tuple ..=>(match h with|.Name ..=>true|_=>false)
 |.SetComp ..=>false
 |.DictComp ..=>(match h with|.Name y _=>g.sc.names.lookup y==some .cell|_=>false)
 |_=>true
set_option tactic.hygienic true in
def Kk (o:dF fa n g X)(c:Kl g tg a=true)(j:cG g tg=some t):swapsWithSole [tg] a l X.env=pure false/\swappedStores [tg] a X.env=pure none/\(assignEach [tg] X.env).map (·.2)=[assign tg X.env]:=by
 refine{?_,?_,?_}
 ·cases a<;>first|rfl|cases c|skip
  all_goals cases tg<;>first|cases c|skip
  all_goals
  next y p=>
  have e:=eq_of_beq c;have hk:(X.env.kindOf y==some .local)=false:=by unfold Env.kindOf;rw[o.sc,e];rfl
  show(pure (X.env.blockKind==.function&&X.env.kindOf y==some .local&&_&&_):Sem Bool)=pure false;rw[hk,Bool.and_false,Bool.false_and,Bool.false_and]
 ·replace j:=bI j;rcases j with h|h
  ·obtain⟨_,_,rfl,_⟩:=cb h;cases a<;>first|rfl|cases c
  ·obtain⟨_,_,_,rfl,_⟩:=fJ h;cases a<;>first|rfl|cases c
 ·replace j:=bI j;rcases j with h|h
  ·obtain⟨_,_,rfl,_⟩:=cb h;rfl
  ·obtain⟨_,_,_,rfl,_⟩:=fJ h;rfl
def GQ:hJ:=λR g st=>pK st λts a _=>n1 ts λh=>if Kl g h a=true then(cG g h).bind λt=>((R.x g a).bind λx=>some (cv t x)).or ((R.e g a).bind λx=>some (aw t x)) else none
def Eh:SS GQ:=λ{y n R} u {g X} o {a z} h=>by
 replace h:=iE h;obtain⟨ts,a,p,rfl,h⟩:=h;replace h:=b5 h;obtain⟨B,rfl,h⟩:=h;obtain⟨c,h⟩:=oi h;obtain⟨t,j,h⟩:=ob h;obtain⟨a1,a2,a3⟩:=Kk o c j;replace h:=bI h;rcases h with h|h
 ·obtain⟨x,e,h⟩:=ob h;cases h;exact HE (u.x o e) (ix o j) a1 a2 a3
 ·obtain⟨x,v,h⟩:=ob h;cases h;exact JU (u.e o v) (ix o j) a1 a2 a3
def Ct:hJ:=λR g st=>pK st λts d _=>n1 ts λt=>nName t λy v=>MM d λu j h p=>if 2<=g.lv/\g.sc.names.lookup y=some .local/\(v.line==p.line)=true/\(h.names.any λ(n,k)=>n==y&&(k==.local||k==.cell))=false then(cC R g (.ListComp u j h p)).bind λq=>(g.N.findIdx? (·==y)).bind λi=>some (aw (.one i) (cz (g.cl p) q.1 q.2.1 q.2.2.1 q.2.2.2)) else none
def Ap:SS Ct:=λ{fa n R} rc {g X} o {a ga} h=>by
 replace h:=iE h;obtain⟨ts,d,_,rfl,h⟩:=h;replace h:=b5 h;obtain⟨t,rfl,h⟩:=h;replace h:=cb h;obtain⟨y,Y,rfl,h⟩:=h;replace h:=zl h;obtain⟨_,_,v,p,rfl,h⟩:=h
 ·next=>
  obtain⟨⟨lv,F,H,I⟩,h⟩:=oi h;obtain⟨⟨k,t,w,b⟩,P,h⟩:=ob h;obtain⟨i,O,h⟩:=ob h;cases h;obtain⟨L,tg,E,Q,rest,z,U,own,bn,W,body,J,rfl,S,j,B,T,h1,h2,h3⟩:=(DV rc o P).ex;cases J;have hl:X.env.scope.names.lookup y=some .local:=by rw[o.sc];exact F
  refine xp _ S (o.calm `a) j B T h1 h2 h3 (o.N ▸ o.nd) (w6 o O) hl ?_
  have hk:=(o.top lv).2.2.2;have M:(X.env.blockKind==.function)=true:=by unfold Env.blockKind;rw[hk];rfl
  have u:(X.env.kindOf y==some .local)=true:=by unfold Env.kindOf;rw[hl];rfl
  show(pure (X.env.blockKind==.function&&X.env.kindOf y==some .local&&(Y.line==p.line)&&!(v.names.any λ(n,k)=>n==y&&(k==.local||k==.cell))):Sem Bool)=pure true;rw[M,u,H,I];rfl
def GN:hJ:=λR g st=>pK st λts d _=>n1 ts λt=>nI t λa b _=>if iW b=true then(R.e g a).bind λx=>(R.e g b).bind λy=>(R.e g d).bind λz=>some (fA x y z) else none
def Ed:SS GN:=λ{F n R} j {g X} o {a H} h=>by
 replace h:=iE h;obtain⟨ts,d,_,rfl,h⟩:=h;replace h:=b5 h;obtain⟨t,rfl,h⟩:=h;replace h:=gx h;obtain⟨a,b,p2,rfl,h⟩:=h
 ·next=>
  obtain⟨c,h⟩:=oi h;obtain⟨x,u,h⟩:=ob h;obtain⟨y,B,h⟩:=ob h;obtain⟨z,E,h⟩:=ob h;cases h;refine JQ (j.e o u) (j.e o B) (j.e o E) (λv=>?_) ?_ ?_ rfl
  ·cases b<;>first|rfl|cases c
  ·cases d<;>rfl
  ·cases d<;>rfl
def GR:hJ:=λR g st=>Bg st λe _=>IT e λa m d q=>if m="append"/\jS a=true/\q=true/\notStar d=true then(R.e g a).bind λx=>(R.e g d).bind λy=>some (fC x y) else none
def Ei:SS GR:=λ{F n R} j {g X} o {a H} h=>by
 replace h:=pI h;obtain⟨e,_,rfl,h⟩:=h;replace h:=zm h;obtain⟨a,m,q,d,p,rfl,h⟩:=h;replace h:=oi h;obtain⟨⟨rfl,u,v,z⟩,h⟩:=h;obtain⟨x,B,h⟩:=ob h;obtain⟨y,E,h⟩:=ob h;cases h;exact JV (j.e o B) (j.e o E) (fO u) v (ba z) rfl
def GL:hJ:=λR g st=>(Bg st λa _=>if mC a=true then((R.x g a).bind λx=>some (fB x)).or ((R.e g a).bind λx=>some (HK x)) else none).or
 ((sRt st λq _ => match q with
   |none=>some CW
   |some a=>((R.x g a).bind λx=>some (mw x)).or ((R.e g a).bind λx=>some (aD x))).or
 ((sPs st λ_=>some wG).or
 ((ME st λc st u _=>(R.t g c).bind λt=>(oW (R.s g) st).bind λx=>(oW (R.s g) u).bind λy=>some (aL t x y)).or
 (MF st λh a body j _=>n0 j (if g.lv=2/\iX a=true then(R.w g h a).bind λw=>(cG g h).bind λt=>(oW (R.s g) body).bind λx=>some (dz t w x) else none)))))
def Ec:SS GL:=λ{F n R} j {g X} o {a H} h=>by
 replace h:=bI h;rcases h with h|h
 ·obtain⟨a,p,rfl,h⟩:=pI h;obtain⟨c,h⟩:=oi h;rcases bI h with h|h
  ·obtain⟨x,e,h⟩:=ob h;cases h;exact K5 (j.x o e) (vt c)
  ·obtain⟨x,u,h⟩:=ob h;cases h;exact LQ (j.e o u) (vt c)
 replace h:=bI h;rcases h with h|h
 ·obtain⟨q,p,rfl,h⟩:=HI h;cases q with
  |none=>cases h;exact F6
  | some a =>
    rcases bI h with h|h
    ·obtain⟨x,e,h⟩:=ob h;cases h;exact Hz (j.x o e)
    ·obtain⟨x,u,h⟩:=ob h;cases h;exact JP (j.e o u)
 replace h:=bI h;rcases h with h|h
 ·obtain⟨p,rfl,h⟩:=HJ h;cases h;exact F7
 replace h:=bI h;rcases h with h|h
 ·obtain⟨c,st,I,p,rfl,h⟩:=yP h;obtain⟨t,v,h⟩:=ob h;obtain⟨x,u,h⟩:=ob h;obtain⟨y,B,h⟩:=ob h;cases h;exact JR (j.t o v) (g9 (j.s o) u) (g9 (j.s o) B)
 ·obtain⟨J,a,body,E,p,rfl,h⟩:=yQ h;obtain⟨rfl,h⟩:=eG h;obtain⟨⟨lv,c⟩,h⟩:=oi h;obtain⟨w,z,h⟩:=ob h;obtain⟨t,v,h⟩:=ob h;obtain⟨x,u,h⟩:=ob h;cases h;exact zS (o.po lv) (o.calm `a) (j.w o z) (ix o v) (DM (g9 (j.s o) u)) (t4 c)
def xR:hJ:=λR g st=>Nx st λe c _=>if c.isNone=true then e.bind λe=>lI e λx h _=>nC h λa h=>if 2<=g.lv/\g4 g x=true then(match g.T.lookup x with
 |some (.xc k)=>(cA (R.e g) (a::h)).bind λj=>some (di k j)
 |_=>none) else none else none
set_option tactic.hygienic true in
def xQ:SS xR:=λ{y n R} v {g X} o {a z} h=>by
 replace h:=E9 h;obtain⟨e,c,_,rfl,h⟩:=h;replace h:=oi h;obtain⟨c,h⟩:=h;rw[Rf.mp c];replace h:=ob h;obtain⟨e,rfl,h⟩:=h;replace h:=fm h;obtain⟨x,q,u,p,rfl,h⟩:=h;replace h:=gL h;obtain⟨a,u,rfl,h⟩:=h
 ·obtain⟨⟨lv,c⟩,k⟩:=oi h;clear h;split at k
  ·next e=>
   obtain⟨B,j,k⟩:=ob k;cases k;obtain⟨d,ns⟩:=gM (v.e o) j;rw[Qb,O3] at ns;obtain⟨C,h1,h2,h3,_⟩:=o.T.xc e;exact E8 _ ⟨C,h1,h2,h3⟩ (o.top lv).1 (cH o c).1 (o.calm `a) d (cH o c).2 ns.1 ns.2
  ·cases k
def BS (o:dF fa n g X)(lv:2<=g.lv)(pn:List (Addr×Obj))(E:OX->O0->Prop):dF fa n {g with lv:=3} (rW X pn E):={o.N,o.nd,o.sc,o.T,o.tw,o.xf,o.ms,λ_=>o.fn `a,o.oc,λ_=>o.calm `a,λ_=>o.C `a,λ_=>o.hr `a,λ_=>o.top lv,(λz=>nomatch z)}
def BU (o:dF fa n g X)(lv:2<=g.lv)(v:OX)(E:OX->O0->Prop):dF fa n {g with lv:=0} (rX X v E):={o.N,o.nd,o.sc,o.T,o.tw,o.xf,o.ms,λ_=>o.fn `a,o.oc,(λz=>absurd (show 0<0 from z) `d),(λz=>absurd (show 0<0 from z) `d),(λz=>absurd (show 0<0 from z) `d),(λz=>absurd (show 2<=0 from z) `d),(λz=>nomatch z)}
def Ge {rest:List Stmt}{p q:Pos}{c:Expr}{z:GT}{B:GS}(R:DT fa X c z)(Q:uO fa X rest B):uO fa X (.If c [.Continue p] [] q::rest) (aL z aE B):=by
 intro v s F H D I ⟨hn,U,S,M,O,P,h⟩;refine kn (C0 R (kn uR pP) pP) Q v s F H D I (u2 O P h λk L J y E j u h1=>?_);cases k with
 |true=>exact hn _ _ (h1 F J y E j u)
 |false=>exact{hn,y,S,L,j,u,zf E h1}
set_option tactic.hygienic true in
def Gf {st:Stmt}{rest:List Stmt}{E B:GS}(h1:DS fa X st E)(h2:uO fa X rest B):uO fa X (st::rest) (aT E B):=by
 intro j s R H D I ⟨hn,P,Q,M,J,L,h⟩;obtain⟨fl,F,e,q⟩:=ax h;refine kn h1 h2 j s R H D I {P,Q,M,J,L,?_};rw[e];cases fl with
 |next u=>exact λS U z O v y=>{hn,z,u,F,v,y,zf O q}
 |ret d=>exact q
 |exc x u=>exact q
def HL {st:Stmt}(h:(match st with|.Continue _=>true|_=>false)=true):∃p,st=.Continue p:=by
 cases st<;>first|exact{_,rfl}|cases h
def cL (R:Rc)(g:G):List Stmt->Option GS
 |[]=>some aE
 |a::r=>(ME a λc st h _=>n1 st λk=>n0 h (if (match k with|.Continue _=>true|_=>false)=true then(R.t g c).bind λt=>(cL R g r).bind λy=>some (aL t aE y) else none)).or ((R.s g a).bind λx=>(cL R g r).bind λy=>some (aT x y))
def xw (j:gG fa n R)(o:dF fa n g X):∀{ss:List Stmt}{v:GS},cL R g ss=some v->uO fa X ss v
 |[],_,h=>by cases h;exact DM vV
 | a :: r, _, h => by
   rcases bI h with h|h
   ·obtain⟨c,st,E,p,rfl,h⟩:=yP h;obtain⟨k,rfl,h⟩:=b5 h;obtain⟨rfl,h⟩:=eG h;obtain⟨ck,h⟩:=oi h;obtain⟨_,rfl⟩:=HL ck;obtain⟨t,z,h⟩:=ob h;obtain⟨y,u,h⟩:=ob h;cases h;exact Ge (j.t o z) (xw j o u)
   ·obtain⟨x,B,h⟩:=ob h;obtain⟨y,u,h⟩:=ob h;cases h;exact Gf (j.s o B) (xw j o u)
def Cr:hJ:=λR g st=>MF st λh a body j _=>n0 j (if g.lv=2/\iX a=true then(R.w g h a).bind λw=>(cG g h).bind λt=>(cL R g body).bind λx=>some (dz t w x) else none)
def An:SS Cr:=λ{B n R} j {g X} o {a E} h=>by
 obtain⟨F,a,body,z,p,rfl,h⟩:=yQ h;obtain⟨rfl,h⟩:=eG h;obtain⟨⟨lv,c⟩,h⟩:=oi h;obtain⟨w,v,h⟩:=ob h;obtain⟨t,u,h⟩:=ob h;obtain⟨x,y,h⟩:=ob h;cases h;exact zS (o.po lv) (o.calm `a) (j.w o v) (ix o u) (xw j o y) (t4 c)
def Jw (h:es.all notStar=true)(hl:es.length<30):methodCallForm es.length (backTo pos (starEach es env)) (backToKw pos (keywordEach [] env))=true:=by
 rw[og h];have:backToKw pos (keywordEach [] env)=[]:=rfl;rw[this];unfold methodCallForm backTo;simp[hl]
def Hc:dE:=λR g e=>rR e λa f _=>if jS a=true then(R.e g a).bind λx=>some (dg f x) else none
def Ez:SE Hc:=λ{y n R} v {g X} o {a z} h=>by
 obtain⟨a,f,p,rfl,h⟩:=ku h;obtain⟨j,h⟩:=oi h;obtain⟨x,u,h⟩:=ob h;cases h;exact L8 f o.T.ob o.T.of (v.e o u) (fO j)
def CF:dE:=λR g e=>rQ e λh j ks p=>rR h λa m ap=>n0 ks (if jS a=true/\(ap.endLine==p.line)=true/\0<g.lv/\j.length<30 then(g.ms.find? (·.1==m)).bind λq=>(cA (R.e g) j).bind λu=>(R.e g a).bind λx=>some (cx q.2.1 q.2.2 g.c x u) else none)
def AE:SE CF:=λ{M n R} y {g X} o {a O} h=>by
 replace h:=kr h;obtain⟨hd,E,ks,p,rfl,h⟩:=h;replace h:=ku h;obtain⟨a,m,ap,rfl,h⟩:=h;replace h:=eG h;obtain⟨rfl,h⟩:=h;replace h:=oi h;obtain⟨⟨z,B,u,J⟩,h⟩:=h;replace h:=ob h;obtain⟨q,H,h⟩:=h;obtain⟨P,j,h⟩:=ob h;obtain⟨x,I,h⟩:=ob h;cases h;obtain⟨C,F,cl,v,nm⟩:=o.ms q (List.mem_of_find?_eq_some H);have e:=List.find?_some H;have e:=eq_of_beq e;rw[e] at v nm;have hr:=(o.hr u).mono (Rk _);cases E with
 |nil=>cases j;exact Gn (o.C u _) hr o.T.of F cl v nm (y.e o I) (fO z) B
 | cons b E =>
   obtain⟨d,ns⟩:=gM (y.e o) j;have L:=Jw (env:=X.env) (pos:=p) ns J;rw[Qb,O3] at ns;exact J6 (o.C u _) hr o.T.of F cl v nm (y.e o I) d (fO z) L B (ba ns.1) (cP ns.2)
def CG:dE:=λR g e=>lI e λx h _=>nC h λa h=>if 0<g.lv/\g4 g x=true then(g.T.lookup x).bind fun
 |.cls c f=>(cA (R.e g) (a::h)).bind λj=>some (jt c f g.c j)
 |_=>none else none
def AF:SE CG:=λ{y n R} v {g X} o {a z} h=>by
 replace h:=fm h;obtain⟨x,q,u,p,rfl,h⟩:=h;replace h:=gL h;obtain⟨a,u,rfl,h⟩:=h;obtain⟨⟨lv,c⟩,h⟩:=oi h;obtain⟨t,e,h⟩:=ob h;cases t with
 | cls k f =>
   obtain⟨B,j,h⟩:=ob h;cases h;obtain⟨d,ns⟩:=gM (v.e o) j;rw[Qb,O3] at ns;obtain⟨C,h1,h2,h3⟩:=o.T.cls e;exact J7 (o.C lv _) (o.hr lv) o.T.of h2 h3 (cH o c).1 h1 d (cH o c).2 (ba ns.1) (cP ns.2)
 |_=>cases h
def GO:hJ:=λR g st=>pK st λts v _=>n1 ts λt=>rR t λa f _=>if mC v=true then(R.e g a).bind λx=>(R.e g v).bind λy=>some (jm f x y) else none
def yr (h:mC v=true):swapsWith v (some (.Attribute a f p)) l env=pure false:=by
 cases v<;>first|rfl|cases h
def Ee:SS GO:=λ{B n R} j {g X} o {a E} h=>by
 replace h:=iE h;obtain⟨ts,v,p,rfl,h⟩:=h;replace h:=b5 h;obtain⟨t,rfl,h⟩:=h;replace h:=ku h;obtain⟨a,f,p2,rfl,h⟩:=h;obtain⟨c,h⟩:=oi h;obtain⟨x,u,h⟩:=ob h;obtain⟨y,z,h⟩:=ob h;cases h;exact K1 f o.T.ob o.T.of (j.e o u) (j.e o z) (yr c)
def uV:hJ:=λR g st=>sTr st λbody hs j y _=>n0 j (n0 y (n1 hs fun
 |.ExceptHandler t nm z _=>t.bind λt=>nName t λx _=>nC z λb h=>if nm.isNone=true/\2<=g.lv/\g4 g x=true then(g.tw.find? λq=>q.1==x&&q.2.1==x&&q.2.2.1==q.2.2.2).bind λq=>(oW (R.s {g with lv:=3}) body).bind λu=>(oW (R.s {g with lv:=0}) (b::h)).bind λv=>some (lC u q.2.2.1 q.2.2.1 v) else none))
def wj:SS uV:=λ{L n R} B {g X} o {a O} h=>by
 replace h:=HH h;obtain⟨body,hs,J,M,_,rfl,h⟩:=h;replace h:=eG h;obtain⟨rfl,h⟩:=h;replace h:=eG h;obtain⟨rfl,h⟩:=h;replace h:=b5 h;obtain⟨hd,rfl,h⟩:=h;obtain⟨t,nm,P,_⟩:=hd;replace h:=ob h;obtain⟨t,rfl,h⟩:=h;replace h:=cb h;obtain⟨x,_,rfl,h⟩:=h;replace h:=gL h;obtain⟨b,j,rfl,h⟩:=h;obtain⟨⟨F,lv,c⟩,k⟩:=oi h;clear h;rw[Rf.mp F];obtain⟨q,z,k⟩:=ob k;obtain⟨u,H,k⟩:=ob k;obtain⟨v,I,k⟩:=ob k;cases k;have tw:=o.tw q (List.mem_of_find?_eq_some z);have e:=List.find?_some z;rw[O3,O3] at e;rw[eq_of_beq e.1.1,eq_of_beq e.1.2,<- eq_of_beq e.2] at tw;have y:=o.top lv;exact Bf tw y.1 y.2.1 y.2.2.1 (cH o c).1 (cH o c).2 (λpn E=>g9 (B.s (BS o lv pn E)) H) (λv E=>g9 (B.s (BU o lv v E)) I)
section
variable{β:Type}{e:Expr}{st:Stmt}{r:β}
noncomputable def IP (e:Expr)(k:List (Option Expr)->List Expr->Pos->Option β):Option β:=if h:e.ctorIdx=6 then @Expr.Dict.elim (λ_=>Option β) e h k else none
def FJ (h:IP e k=some r):∃a b c,e=.Dict a b c/\k a b c=some r:=(od h).elim λz h=>@Expr.Dict.elim (λe=>∀z,@Expr.Dict.elim (λ_=>Option β) e z k=some r->∃a b c,e=.Dict a b c/\k a b c=some r) e z (λa b c _ h=>⟨a,b,c,rfl,h⟩) z h
noncomputable def MD (e:Stmt)(k:Expr->List Stmt->List Stmt->Pos->Option β):Option β:=if h:e.ctorIdx=11 then @Stmt.While.elim (λ_=>Option β) e h k else none
def HG (h:MD st k=some r):∃a b c d,st=.While a b c d/\k a b c d=some r:=(od h).elim λz h=>@Stmt.While.elim (λe=>∀z,@Stmt.While.elim (λ_=>Option β) e z k=some r->∃a b c d,e=.While a b c d/\k a b c d=some r) st z (λa b c d _ h=>⟨a,b,c,d,rfl,h⟩) z h
noncomputable def MO (e:Expr)(k:Expr->Expr->List Q2->Scope->Pos->Option β):Option β:=if h:e.ctorIdx=10 then @Expr.DictComp.elim (λ_=>Option β) e h k else none
def IQ (h:MO e k=some r):∃a b c d p,e=.DictComp a b c d p/\k a b c d p=some r:=(od h).elim λz h=>@Expr.DictComp.elim (λe=>∀z,@Expr.DictComp.elim (λ_=>Option β) e z k=some r->∃a b c d p,e=.DictComp a b c d p/\k a b c d p=some r) e z (λa b c d p _ h=>⟨a,b,c,d,p,rfl,h⟩) z h
end
def oN (o:dF fa n g X):hU fa:=⟨o.T.of,o.T.od.1,o.T.od.2⟩
def CK:dE:=λR g e=>nI e λa b p=>if g.tx p=true/\iW b=true/\0<g.lv then(R.e g a).bind λx=>(R.e g b).bind λy=>some (iw x y) else none
def AJ:SE CK:=λ{z n R} j {g X} o {a B} h=>by
 replace h:=gx h;obtain⟨a,b,p,rfl,h⟩:=h;replace h:=oi h;obtain⟨⟨_,c,lv⟩,h⟩:=h;obtain⟨x,u,h⟩:=ob h;obtain⟨y,v,h⟩:=ob h;cases h;exact Ka (o.rm lv) (oN o) (j.e o u) (j.e o v) (iV c)
noncomputable def isIn (q:CmpOp):Option Bool:=match q with
 |.In=>some false
 |.NotIn=>some true
 |_=>none
def FV (h:isIn q=some n):q=if n then .NotIn else .In:=by
 cases q<;>first|(cases h;rfl)|cases h
def Kg (R:Rc)(g:G)(e:Expr):Option GE:=IS e λa h bs p=>n1 h λq=>n1 bs λb=>if g.tx p=true/\behindInMarks q b=false/\0<g.lv then(isIn q).bind λn=>(R.e g a).bind λx=>(R.e g b).bind λy=>some (lV n x y) else none
def Gy (j:gG fa n R)(o:dF fa n g X)(h:Kg R g e=some ge):DE fa X e ge/\DT fa X e (aq ge):=by
 replace h:=pV h;obtain⟨a,z,bs,p,rfl,h⟩:=h;replace h:=b5 h;obtain⟨q,rfl,h⟩:=h;replace h:=b5 h;obtain⟨b,rfl,h⟩:=h;replace h:=oi h;obtain⟨⟨_,c,lv⟩,h⟩:=h;obtain⟨m,hm,h⟩:=ob h;obtain⟨x,u,h⟩:=ob h;obtain⟨y,v,h⟩:=ob h;cases h;have e:=FV hm;subst e;exact{L9 m (o.rm lv) (oN o) (j.e o u) (j.e o v) c,JL m (o.rm lv) (oN o) (j.e o u) (j.e o v) c}
def G3:D6:=λR g e=>(Kg R g e).bind λx=>some (aq x)
def Er:ST G3:=λ{v n R} u {g X} o {a y} h=>by
 obtain⟨x,j,h⟩:=ob h;cases h;exact(Gy u o j).2
def Cs:hJ:=λR g st=>pK st λts d _=>n1 ts λt=>nI t λa b p=>if g.tx p=true/\iW b=true/\0<g.lv then(R.e g a).bind λx=>(R.e g b).bind λy=>(R.e g d).bind λz=>some (kj x y z) else none
def Ao:SS Cs:=λ{F n R} j {g X} o {a H} h=>by
 replace h:=iE h;obtain⟨ts,d,_,rfl,h⟩:=h;replace h:=b5 h;obtain⟨t,rfl,h⟩:=h;replace h:=gx h;obtain⟨a,b,p2,rfl,h⟩:=h;replace h:=oi h;obtain⟨⟨_,c,lv⟩,h⟩:=h;obtain⟨x,u,h⟩:=ob h;obtain⟨y,B,h⟩:=ob h;obtain⟨z,E,h⟩:=ob h;cases h;refine HC (o.rm lv) (oN o) (j.e o u) (j.e o B) (j.e o E) (λv=>?_) ?_ ?_
 ·cases b<;>first|rfl|cases c
 ·cases d<;>rfl
 ·cases d<;>rfl
def CJ:dE:=λR g e=>if g.tx e.pos=true then(cR R g "len" e).bind λq=>if notStar q.1=true then some (mJ q.2) else none else none
def AI:SE CJ:=λ{z n R} v {g X} o {a B} h=>by
 obtain⟨_,h⟩:=oi h;obtain⟨⟨b,y⟩,u,h⟩:=ob h;obtain⟨c,h⟩:=oi h;cases h;obtain⟨_,_,rfl,j,hm,_,d,hs⟩:=oX v o u;exact J9 (oN o) j hm d c
def yf:dE:=λR g e=>MO e λB E u h p=>n1 u λc=>nG c λz j v=>let own:=wJ z
 n0 v (if vm g own h/\iX j=true then(R.w g z j).bind λw=>(cG (g.inC own h) z).bind λt=>(R.e (g.inC own h) B).bind λx=>(R.e (g.inC own h) E).bind λy=>if (slots t).all (· < own.length)=true then some (jY (if g.tx p=true then 78 else 77) own.length t w (ju x y)) else none else none)
def yd:SE yf:=λ{Q n R} u {g X} o {a U} h=>by
 replace h:=IQ h;obtain⟨W,vx,z,v,p,rfl,h⟩:=h;replace h:=b5 h;obtain⟨c,rfl,h⟩:=h;replace h:=rP h;obtain⟨Y,B,P,rfl,h⟩:=h;replace h:=eG h;obtain⟨rfl,h⟩:=h;replace h:=oi h;obtain⟨⟨c,F⟩,h⟩:=h;obtain⟨w,J,h⟩:=ob h;obtain⟨t,I,h⟩:=ob h;obtain⟨x,L,h⟩:=ob h;obtain⟨y,M,h⟩:=ob h;obtain⟨E,h⟩:=oi h;cases h;obtain⟨S,O⟩:=xr o c;exact Gq (by split<;>simp) (oN o) S (o.calm c.1) (u.w o J) {λcl C j s H=>ix (O cl C j s H) I,λcl C j s H a=>Gk ((O cl C j s H).rm Nat.zero_lt_one) (oN o) (u.e (O cl C j s H) L) (u.e (O cl C j s H) M)} (by simpa using kc E) (t4 F)
def xP:hJ:=λR g st=>MD st λc body h _=>n0 h (if g.lv=2 then(R.t g c).bind λt=>(oW (R.s g) body).bind λb=>some (gU t b) else none)
def xO:SS xP:=λ{z n R} j {g X} o {a B} h=>by
 replace h:=HG h;obtain⟨c,body,y,p,rfl,h⟩:=h;replace h:=eG h;obtain⟨rfl,h⟩:=h;replace h:=oi h;obtain⟨lv,h⟩:=h;obtain⟨t,v,h⟩:=ob h;obtain⟨b,u,h⟩:=ob h;cases h;exact E6 (o.po lv) (j.t o v) (g9 (j.s o) u)
def Hg:dE:=λR g e=>(cR R g "any" e).bind λq=>if notStar q.1=true then some (p7 q.2) else none
def EB:SE Hg:=λ{z n R} v {g X} o {a B} h=>by
 obtain⟨⟨b,y⟩,u,h⟩:=ob h;obtain⟨c,h⟩:=oi h;cases h;obtain⟨_,_,rfl,j,hm,lv,d,hs⟩:=oX v o u;exact Md (o.calm lv) j hm d c
def Mx:dE:=λR g e=>IP e λks h p=>n1 ks λk=>k.bind λk=>n1 h λv=>if 0<g.lv then(R.e g k).bind λx=>(R.e g v).bind λy=>some (vQ (if g.tx p=true then 78 else 77) x y) else none
def He:SE Mx:=λ{B n R} j {g X} o {a E} h=>by
 replace h:=FJ h;obtain⟨ks,F,p,rfl,h⟩:=h;replace h:=b5 h;obtain⟨k,rfl,h⟩:=h;obtain⟨k,rfl,h⟩:=PB.mp h;replace h:=b5 h;obtain⟨v,rfl,h⟩:=h;replace h:=oi h;obtain⟨lv,h⟩:=h;obtain⟨x,u,h⟩:=ob h;obtain⟨y,z,h⟩:=ob h;cases h;exact Gp _ (by split<;>simp) (o.rm lv) (oN o) (j.e o u) (j.e o z)
def Cu:hJ:=λR g st=>Bg st λe _=>IT e λa m d q=>if m="append"/\jS a=true/\q=true/\notStar d=true then(R.e g a).bind λx=>(R.x g d).bind λy=>some (mx x y) else none
def Ar:SS Cu:=λ{F n R} j {g X} o {a H} h=>by
 replace h:=pI h;obtain⟨e,_,rfl,h⟩:=h;replace h:=zm h;obtain⟨a,m,q,d,p,rfl,h⟩:=h;replace h:=oi h;obtain⟨⟨rfl,u,v,z⟩,h⟩:=h;obtain⟨x,B,h⟩:=ob h;obtain⟨y,E,h⟩:=ob h;cases h;exact F8 (j.e o B) (j.x o E) (fO u) v (ba z) rfl
def hV (f:D->D->Mem->Option D)(a b:GE):GE:=λh M=>match a h M with
 | .ok x M => (match b h M with
   |.ok y M=>bL M (f x y M)
   |_=>.bad)
 |.err x M=>.err x M
 |.bad=>.bad
def ub (x y:D)(M:Mem):Option D:=match x with
 |.fn o=>getD M o y
 |_=>none
section
variable{fa:Fa}{X:Cx}{a b:Expr}{ga gb:GE}{pos:Pos}{f:D->D->Mem->Option D}
def MB {R:V->V->Hp->Prop}(U:bb fa X.K μ H σ Z)(hM:RelM fa X.K μ H M)(h:dW (hV f ga gb Z M) (aZ fa X.K μ H Q) (λx M'=>XW fa X μ H x Z M'))
 (k:∀x y d B v u z j,Ext μ H j z->RelM fa X.K j z B->Rep fa X.K j z x v->Rep fa X.K j z y u->f x y B=some d->aZ fa X.K μ H Q d B->R v u z) :
 Ho fa X ga σ H λv S=>tE fa X.K gb σ S λu z=>R v u z:=by
 refine{μ,Z,M,U,hM,?_};unfold hV at h;cases F:ga Z M with
 |bad=>rw[F] at h;exact h.elim
 |err y E=>rw[F] at h;exact h
 | ok x E =>
   rw[F] at h;dsimp only at h;intro v S P W L rx;refine{P,Z,E,U.ext W,L,?_};cases I:gb Z E with
   |bad=>rw[I] at h;exact h.elim
   |err y B=>rw[I] at h;exact h.elim
   | ok y B =>
     rw[I] at h;dsimp only at h;intro u z j Y O ry;cases J:f x y B with
     |none=>rw[J] at h;exact h.elim
     |some d=>rw[J] at h;exact k x y d B v u z j (W.trans Y) O (rx.ext Y) ry J h
def KH (I:DX fa X a ga)(J:DE fa X b gb)(hs:fP b):DX fa X (.Subscript a b pos) (hV da ga gb):=
 bq (ow DJ I J hs) λS H Q ⟨P,R,M,E,F,h⟩=>MB E F h λx y d B v u O z L j r1 r2 e q=>{z,B,x,y,d,j,r1,r2,e,q.ext L}
def GZ (L:Rm X)(hd:hU fa)(I:DX fa X a ga)(J:DE fa X b gb)(hs:fP b):DX fa X (.Subscript a b pos) (hV ub ga gb):=
 bq (ow (DG L hd) I J hs) λU H Q ⟨R,S,M,E,F,h⟩=>MB E F h λx y d B v u P z O j r1 r2 e q=>by
  cases x with
  |fn o=>exact{z,B,o,y,d,j,r1,r2,e,aZ.ext q O}
  |_=>cases e
end
def GU:dE:=λR g e=>nI e λa b p=>if iW b=true/\0<g.lv then(R.x g a).bind λx=>(R.e g b).bind λy=>some (if g.tx p=true then hV ub x y else hV da x y) else none
def Ej:SX GU:=λ{fa n R} j {g X} o {a ga} h=>by
 replace h:=gx h;obtain⟨a,b,p,rfl,h⟩:=h;replace h:=oi h;obtain⟨⟨c,lv⟩,h⟩:=h;obtain⟨x,u,h⟩:=ob h;obtain⟨y,v,h⟩:=ob h;cases h;split
 ·exact GZ (o.rm lv) (oN o) (j.x o u) (j.e o v) (iV c)
 ·exact KH (j.x o u) (j.e o v) (iV c)
def pJ (i:Nat)(a:GE):GS:=λh M=>match h[i]?.getD none with
 | some (.int x) => (a h M).bind λy M => (match y with
   |.int y=>.ok (.next (h.set i (some (.int (x+y))))) M
   |_=>.bad)
 |_=>.bad
def JT {i:Nat}{x:Str}{e:Expr}{ge:GE}{p2 pos:Pos}(P:X.N.Nodup)(hi:X.N[i]?=some x)(R:Loc X.env.scope x)(he:DE fa X e ge)(hf:X.fn x=true\/X.env.scope.names.lookup x=some .local):DS fa X (.AugAssign (.Name x p2) .Add e pos) (pJ i ge):=
 cM (Ig P hi R he Jp hf) λD Y H ⟨L,j,M,F,O,h⟩=>by
  obtain⟨a,E,y,z,e1,h⟩:∃a,j[i]?.getD none=some (.int a)/\∃y z,ge j M=.ok (.int y) z/\j6 fa X L H D (.next (j.set i (some (.int (a+y))))) z:=by
   unfold pJ at h;cases B:j[i]?.getD none with
   |none=>rw[B] at h;exact h.elim
   | some d =>
     rw[B] at h;cases d with
     | int a =>
       obtain⟨y,z,e1,h⟩:=ax h;cases y with
       |int y=>exact⟨a,rfl,y,z,e1,h⟩
       |_=>exact h.elim
     |_=>exact h.elim
  have B:j[i]?=some (some (.int a)):=by
   cases q:j[i]? with
   |none=>rw[q] at E;cases E
   |some o=>rw[q] at E;exact congrArg some E
  obtain⟨v,Q,S⟩:=F.at' i _ B;obtain rfl:v=.int a:=S;refine{_,Q,L,j,M,F,O,?_};rw[e1];intro u W U J I r1;obtain rfl:u=.int y:=r1;exact{a,y,rfl,rfl,h _ _ _ J ((F.ext J).set (d:=.int (a+y)) rfl) I}
def Oc (to tl th:TE):TG:=λv h H Q=>to h H λo z=>tl h z λl B=>th h B λu j=>∃(p b:Addr) (xs y:List V) (a c:Int),o=.ref p/\v=.ref b/\l=.int a/\u=.int c/\j p=some (.lst xs)/\j b=some (.lst y)/\p≠b/\0<=a/\a<=c/\c<=xs.length/\xs.length+y.length<=sizeLine/\Q h (upd j p (.lst (xs.take a.toNat++y++xs.drop c.toNat)))
def Ii {o lo hi:Expr}{to tl th:TE}{p2 pos:Pos}(ho:PE X o to)(hl:PE X lo tl)(hh:PE X hi th)
 (Y:∀v,assign (.Subscript o (.Slice (some lo) (some hi) none p2) pos) X.env v=(do
  let y <- holding [v] (eval o X.env)
  let E <- holding [v,y] (eval (.Slice (some lo) (some hi) none p2) X.env)
  standAt pos
  holding [v,y,E] (setItem y E v)
  release [E,v,y] [])):PG X (.Subscript o (.Slice (some lo) (some hi) none p2) pos) (Oc to tl th):=by
 intro j s z H v u Q I r h;rw[Y];refine tqa (tqo (aI (ho j s z H _ I h) λy s1 ⟨x,J,P,r1,q1⟩=>?_));refine tqa (tqo (wpAny_Slice ?_));rw[evalPart_some];refine aI (hl j s1 z J _ P q1) λvl s2 ⟨l,L,R,r2,q2⟩=>?_;rw[evalPart_some];refine aI (hh j s2 z L _ R q2) λvh F ⟨w,M,S,r3,q3⟩=>?_;rw[evalPart_none];refine tqb ?_;obtain⟨p,b,xs,ys,a,c,rfl,rfl,rfl,rfl,e1,e2,ne,W,B,hc,hz,q⟩:=q3;have U:Inv X j z M {F with heap:=F.heap.push {cls:=.type "slice",data:=.fields #[vl,vh,.none]}}:=S.kept (t':=F.toks) λb ob q=>OW _ q
 cases r1;cases r;refine tqa (wpAny_standAt (tqa (tqo (yM U e1 e2 ne (Heap.IsSliceOf.new ..) r2 r3 W B hc hz λs' O=>?_))));exact wpAny_release {z,_,O,q}
def sL (a lo hi d:GE):GS:=λu M=>(d u M).bind λz M=>(a u M).bind λx M=>(lo u M).bind λl M=>(hi u M).bind λh M=>match z,x,l,h with
 | .lst y, .cell k, .int i, .int j => (match M[k]? with
   |some v=>if 0<=i/\i<=j/\j<=v.length/\v.length+y.length<=sz then .ok (.next u) (M.set k (v.take i.toNat++y++v.drop j.toNat)) else .bad
   |none=>.bad)
 |_,_,_,_=>.bad
set_option tactic.hygienic true in
def JO {a lo hi d:Expr}{ga gl gh gd:GE}{p2 y pos:Pos}(ha:DE fa X a ga)(hl:DE fa X lo gl)(hh:DE fa X hi gh)(hd:DE fa X d gd)
 (h0:∀v,assign (.Subscript a (.Slice (some lo) (some hi) none p2) y) X.env v=(do
  let J <- holding [v] (eval a X.env)
  let W <- holding [v,J] (eval (.Slice (some lo) (some hi) none p2) X.env)
  standAt y
  holding [v,J,W] (setItem J W v)
  release [W,v,J] [])) (hs:swapsWithSole [.Subscript a (.Slice (some lo) (some hi) none p2) y] d pos.line X.env=pure false) (hw:swappedStores [.Subscript a (.Slice (some lo) (some hi) none p2) y] d X.env=pure none)
 (h1:(assignEach [.Subscript a (.Slice (some lo) (some hi) none p2) y] X.env).map (·.2)=[assign (.Subscript a (.Slice (some lo) (some hi) none p2) y) X.env]) :
 DS fa X (.Assign [.Subscript a (.Slice (some lo) (some hi) none p2) y] d pos) (sL ga gl gh gd):=
 cM (lF hd (Ii ha hl hh h0) hs hw h1) λD' σ H ⟨μ,Z,M,hE,hM,h⟩=>t1 hE hM h λz M1 vz H1 μ1 x1 O R rz h1=>t1 O R h1 λx M2 vx H2 μ2 x2 P S rx h2=>t2 P S h2 λl h L vl vh H3 μ3 Y Q I rl rh h3=>by
  obtain⟨E,k,i,j,u,rfl,rfl,rfl,rfl,F,c0,c1,c2,c3,q⟩:∃E k i j u,z=.lst E/\x=.cell k/\l=.int i/\h=.int j/\L[k]?=some u/\0<=i/\i<=j/\j<=u.length/\u.length+E.length<=sz/\j6 fa X μ H D' (.next Z) (L.set k (u.take i.toNat++E++u.drop j.toNat)):=by
   cases z with
   | lst E =>
     cases x with
     | cell k =>
       cases l with
       | int i =>
         cases h with
         | int j =>
           dsimp only at h3;cases F:L[k]? with
           |none=>rw[F] at h3;exact h3.elim
           | some u =>
             rw[F] at h3;dsimp only at h3;split at h3
             ·next c=>exact⟨E,k,i,j,u,rfl,rfl,rfl,rfl,F,c.1,c.2.1,c.2.2.1,c.2.2.2,h3⟩
             ·exact h3.elim
         |_=>exact h3.elim
       |_=>exact h3.elim
     |_=>exact h3.elim
   |_=>exact h3.elim
  obtain⟨p,rfl,hk⟩:=rx.ext Y;obtain⟨b,ys,rfl,hb,ry⟩:=(rz.ext x2).ext Y;obtain⟨xs,U,B⟩:=I.at_ F hk;have lx:=B.length;have ly:=ry.length;refine{p,b,xs,ys,i,j,rfl,rfl,rl,rh,U,hb.1,λe=>hb.2 (e ▸ .inl ⟨k,hk⟩),c0,c1,by rw[lx];exact c2,by rw[lx,ly,<- dm];exact c3,?_}
  exact jh Q I hk (((B.take i.toNat).append ry).append (B.drop j.toNat)) λσ' H' μ' x' e' m'=>q σ' H' μ' (((x1.trans x2).trans Y).trans x') e' m'
noncomputable def B4 (h:Addr):Obj:={cls:=.type "enumerate",data:=.fields #[.none,.bool false,.ref h,rawInt 1,.none,.none]}
set_option tactic.hygienic true in
def zt (l:Addr)(us:Array OX)(n:Nat)(dct:Option Addr)(sl:Array (Option OX))(t:Tok) :
 Meets (Builtin.«enumerate.__new__» {[.type "enumerate",.ref l],[("start",.int 1 t)]}) (λ_ R s=>s.heap.get? l=some {.type "list",dct,.seq us n,sl}/\
  R (.ok (.ret (.ref (s.heap.push (c7 true l)).objs.size))) {s with heap:=(s.heap.push (c7 true l)).push (B4 s.heap.objs.size)}):=
 .of_wp λprog w A R s h=>by
  obtain⟨v,g,d,tk,os⟩:=s;obtain⟨j,h⟩:=h;have q:=sub_enumerate;have u:Heap.IsList (Shared.heap ⟨v,g,d,tk,os⟩) l us:={_,j,rfl,n,rfl};wp_walk using QI j
  refine wpAny_stack_any λ_=>tqb ?_;split
  ·rename_i c _ _ _ _ _;cases (c==Value.type "enumerate")<;>
   ·wp_walk using QI j,wpAny_pyIter_list u
    exact{_,rfl,h}
  ·wp_walk using QI j,wpAny_pyIter_list u
   exact{_,rfl,h}
section
variable{prog:PH}{w:PC}{A:Qx}{E:OX->O0->Prop}{s:O0}
def KO {T y:String}{B:Builtin}{u:List OX}{v:List (Str×OX)}{S:PySem.Spec}{Q:OX->O0->Prop}(j:TypeCalled T y "object.__init__")(J:checkTypeCall T ⟨u,v⟩=pure ())(z:checkBuiltinCall y {.type T::u,v}=pure ())(en:entryFor table y=some B)
 (I:∀o,argsOk "object.__init__" {o::u,v}) (hi:∀o s1,s1.TypeIs o T->∀(A:Qx) (Q:Fin->O0->Prop) E,Q (.done (.ret .none)) s1->wpAny (model prog w) A (Builtin.«object.__init__» {o::u,v}) Q E s1) (g:Meets (B {.type T::u,v}) S)
 (h:S A.in1 (wants (λo s1=>s1.TypeIs o T/\Q o s1) E) s):wpAny (model prog w) A (call (.type T) u v) Q E s:=by
 have⟨c,tl,L⟩:=j.mro;have e1:=j.made;have e2:=j.sub;have M:=j.notType;have O:=j.canCreate;refine wpAny_call (codeAny_of_tree (show wpAny _ _ (callAny (.type T) _) _ _ _ from tqb {Code.quiet_builtin _ `k,codeAny_builtin F.entry_type_call ?_}))
 rw[Around.under_plain (weight_type_call_type T u v) (units_type_call_type T u v)]
 repeat (any_goals (first|assumption|wp_step))
 refine codeAny_mono (codeAny_call_builtin j.plain en (wpAny_of_eq z (g prog w A.in1 _ s h))) λr s1 hr=>?_;cases r with
 |error e=>exact hr
 | ok fl =>
   cases fl with
   | ret o =>
     have W:=hr.1;have P:=j.init.lookup;have U:=j.init.bind o
     repeat (any_goals (first|assumption|wp_step))
     refine codeAny_mono (codeAny_call_builtin (R:=wants (λr s2=>r=.none/\s2=s1) λ_ _=>False) j.init.plain F.entry_object_init (j.init.check _ _ _ _ _ _ _ _ hr.1 (I o) (hi o s1 hr.1 _ _ _ ⟨rfl,rfl⟩))) λr2 s2 h2=>?_;cases r2 with
     |error e=>exact h2.elim
     | ok H =>
       cases H with
       | ret r =>
         obtain⟨rfl,rfl⟩:=h2;have Y:=hr.2
         repeat (any_goals (first|assumption|wp_step))
       |_=>exact h2.elim
   |_=>exact hr.elim
def Cd {t:Tok}(v:bF true s.heap l us)
 (h:∀j,IsEnum j (s.heap.objs.size+1) s.heap.objs.size 1 .none->dU true j s.heap.objs.size l 0->(∀c o,s.heap.get? c=some o->j.get? c=some o)->Q (.ref (s.heap.objs.size+1)) {s with heap:=j}):wpAny (model prog w) A (call (.type "enumerate") [.ref l] [("start",.int 1 t)]) Q E s:=by
 obtain⟨⟨c,dct,B,sl⟩,z,y,n,hd⟩:=v;cases y;cases hd;refine KO F.called_enumerate (by kernel_rfl) (by kernel_rfl) F.entry_enumerate_new (λo=>?_) (λo s1 J A Q E L=>?_) (zt l us n dct sl t) {z,?_}
 ·unfold argsOk;kernel_rfl
 ·have H:=F.called_enumerate.init.lookup;have I:=F.called_enumerate.made
  repeat (any_goals (first|assumption|wp_step))
 have u:(s.heap.push (c7 true l)).objs.size=s.heap.objs.size+1:=Qt ..;rw[u];have he:IsEnum ((s.heap.push (c7 true l)).push (B4 s.heap.objs.size)) (s.heap.objs.size+1) s.heap.objs.size 1 .none:=by
  have:=Ph (s.heap.push (c7 true l)) (o:=B4 s.heap.objs.size) rfl;rw[u] at this;exact this
 exact{{_,he,rfl},h _ he (dU.new (OW _ (Ph _ rfl))) λc o x=>OW _ (OW _ x)}
end
def Mg {u:Model}{A:Qx}{E:OX->O0->Prop}{s:O0}{env:Qu}{pos:Pos}{T:String}{e:Expr}{j:List Keyword}{Q:OX->O0->Prop}
 (h:wpAny u A (PySem.spliced (backTo pos (starEach [e] env))) (λvs s1=>wpAny u A (PySem.evalAll ((backToKw pos (keywordEach j env)).map (·.2))) (λus s2=>wpAny u A (PySem.call (.type T) vs (((backToKw pos (keywordEach j env)).filterMap (·.1)).zip us)) Q E s2) E s1) E s)
 (hs:starEach [e] env=[(false,eval e env)]) (v:(backToKw pos (keywordEach j env)).all (·.1.isSome)=true) (y:(backToKw pos (keywordEach j env)).any (·.1.isNone)=false) :
 wpAny u A (callWith pos (.type T) [] (backTo pos (starEach [e] env)) (backToKw pos (keywordEach j env))) Q E s:=by
 rw[hs] at h ⊢;unfold callWith;refine tqa (tqo (wpAny_mono (evalArgs_kwB (f:=.type T) (x:=eval e env) (rest:=[]) (Q:=λa s1=>wpAny u A (PySem.call (.type T) a.pos a.kw) Q E s1) v h) (λa s1 h1=>tqa (wpAny_standAt ?_)) λ_ _ x=>x));simp only[show(backTo pos [(false,eval e env)]).any (·.1)=false from rfl,y,Bool.or_false];exact tqa (tqb (tqa (wpAny_mono h1 (λr s2 hr=>tqa (tqo (wpAny_point (tqb hr)))) λ_ _ x=>x)))
section
variable{fa:Fa}{X:Cx}{a:Expr}{ga:Env->Mem->Res D}{pos p kp cp:Pos}{ci:Nat}
def tY (ga:Env->Mem->Res D):Env->Mem->Res Walk:=λh M=>(ga h M).bind λx M=>if dG x=true/\dY x=true then .ok (λM=>(bR M x).map (dN 1)) M else .bad
def J1 {F:List Expr}(ha:DE fa X a ga)(hg:Gl X "enumerate")(hm:X.mg "enumerate"=none)(hs:starEach [a] X.env=[(false,eval a X.env)]):DI fa X (.Tuple F kk tp) (.Call (.Name "enumerate" p) [a] [{some "start",.Constant (.int 1) ci cp,kp}] pos) (tY ga):=by
 intro u s σ H R I ⟨μ,Z,M,hE,hM,h⟩;obtain⟨x,M1,e,q⟩:=ax h;by_cases J:dG x=true/\dY x=true
 case neg=>rw[if_neg J] at q;exact q.elim
 rw[if_pos J] at q;have hA:=cU ha eB hs pos u s σ H (λY y=>∃v j,Y=[v]/\Ext μ H j y/\RelM fa X.K j y M1/\Rep fa X.K j y x v) I {μ,Z,M,hE,hM,by rw[e];exact λv y j U Q r1=>⟨v,j,rfl,U,Q,r1⟩}
 refine wpAny_Call_Name_kw (fX I hg hm boot_enumerate ?_);refine Mg (aI hA λus s1 ⟨Y,y,I1,r1,v,j,ev,U,Q,W⟩=>?_) hs rfl rfl;subst ev;cases r1 with
 | cons r1 rr =>
   cases rr;refine kws_cons (aI (y8 u s1 σ y (λv' L=>v'=.int 1/\L=y) I1 ⟨rfl,rfl⟩) λnv s2 ⟨nx,L,O,r2,en,eh⟩=>kws_nil ?_);subst en eh;obtain⟨t,rfl⟩:=r2;obtain⟨ad,its,rfl,p1⟩:=iS O Q W J.1;obtain rfl:=r1;have B:=p1.lt;rw[J.2] at p1;refine Cd p1 λh1 he S hk=>?_;have I3:=O.kept (t':=s2.toks) hk;refine wpAny_pyIter_enum he ?_;refine{s2.heap.objs.size+1,[s2.heap.objs.size+1,s2.heap.objs.size],_,_,L,rfl,I3,qy (dY x) ad s2.heap.objs.size (s2.heap.objs.size+1) 1 (Nat.succ_ne_self _) (Pu B) (PX (Ra B)),{{.none,he},J.2 ▸ S},λb P=>?_,q _ L j U Q (qv W)};have P:s2.heap.objs.size<=b:=by
    rcases PJ.mp P with z|z
    ·subst z;exact Rk _
    ·have e:b=s2.heap.objs.size:=by simpa using z
     subst e;exact OZ _
   exact O.fpOk P (O.hok.fresh P)
end
variable{β:Type}{r:β}
noncomputable def MG (e:Stmt)(k:Expr->Operator->Expr->Pos->Option β):Option β:=if h:e.ctorIdx=7 then @Stmt.AugAssign.elim (λ_=>Option β) e h k else none
def HM {st:Stmt}{k:Expr->Operator->Expr->Pos->Option β}(h:MG st k=some r):∃a b c d,st=.AugAssign a b c d/\k a b c d=some r:=(od h).elim λz h=>@Stmt.AugAssign.elim (λe=>∀z,@Stmt.AugAssign.elim (λ_=>Option β) e z k=some r->∃a b c d,e=.AugAssign a b c d/\k a b c d=some r) st z (λa b c d _ h=>⟨a,b,c,d,rfl,h⟩) z h
def GP:hJ:=λR g st=>MG st λt h a _=>nName t λx _=>if h=.Add then(lx g x).bind λi=>(R.e g a).bind λy=>some (pJ i y) else none
def Eg:SS GP:=λ{fa n R} v {g X} o {a ga} h=>by
 obtain⟨t,z,a,p,rfl,h⟩:=HM h;obtain⟨x,q,rfl,h⟩:=cb h;obtain⟨rfl,h⟩:=oi h;obtain⟨i,j,h⟩:=ob h;obtain⟨y,u,h⟩:=ob h;cases h;obtain⟨h1,h2,h3⟩:=rS o j;exact JT (o.N ▸ o.nd) h1 h2 (v.e o u) h3
def GK:hJ:=λR g st=>pK st λts d _=>n1 ts λt=>nI t λa b _=>IK b λlo h st _=>if st.isNone=true then lo.bind λlo=>h.bind λh=>(R.e g a).bind λx=>(R.e g lo).bind λy=>(R.e g h).bind λz=>(R.e g d).bind λw=>some (sL x y z w) else none
def Eb:SS GK:=λ{fa n R} j {g X} o {a ga} h=>by
 obtain⟨ts,d,J,rfl,h⟩:=iE h;obtain⟨t,rfl,h⟩:=b5 h;obtain⟨a,b,p,rfl,h⟩:=gx h;obtain⟨lo,u,st,p2,rfl,h⟩:=vE h;obtain⟨c,h⟩:=oi h;cases lo with
 |none=>cases h
 |some lo=>
 cases u with
 |none=>cases h
 |some u=>
 cases st with
 |some s=>cases c
 |none=>
 obtain⟨x,F,h⟩:=ob (show Option.bind _ _=_ from h);obtain⟨y,H,h⟩:=ob h;obtain⟨z,I,h⟩:=ob h;obtain⟨w,B,h⟩:=ob h;cases h;exact JO (j.e o F) (j.e o H) (j.e o I) (j.e o B) (λv=>rfl) (by cases d<;>rfl) (by cases d<;>rfl) rfl
def G2:uK:=λR g t e=>pT t λ_ _ _=>rQ e λh j ks _=>nName h λx _=>n1 j λa=>n1 ks λk=>BA k.value λc _ _=>if x="enumerate"/\g4 g x=true/\(match g.T.lookup x with|some .bl=>true|_=>false)=true/\0<g.lv/\notStar a=true/\k.arg=some ("start":Str)/\c=.int 1 then(R.e g a).bind λy=>some (tY y) else none
def Eo:SW G2:=λ{fa n R} F {g X} o {t a ga} h=>by
 obtain⟨_,_,_,rfl,h⟩:=fJ h;obtain⟨hd,H,ks,p,rfl,h⟩:=kr h;obtain⟨x,q,rfl,h⟩:=cb h;obtain⟨a,rfl,h⟩:=b5 h;obtain⟨⟨I,J,kp⟩,rfl,h⟩:=b5 h;obtain⟨c,i,cp,rfl,h⟩:=pU h;obtain⟨⟨e1,u,v,lv,z,e2,j⟩,h⟩:=oi h;obtain⟨y,B,h⟩:=ob h;cases h;dsimp only at e2 j;subst e1 e2 j;exact J1 (F.e o B) (cH o u).1 (o.T.bl (kK v)) (ba z)
end LD
namespace LD
open PySem PySem.Spec PyProof.Rows L2
structure Ent where
 i:Nat
 x:Str
 st:Stmt
 ps:Nat
 N:List Str
 f:Addr
 pm:Str×Tok
 b:Call->GS
 r:Bool:=false
 q:Option Str:=none
 df:Addr:=0
noncomputable def Ent.qn (e:Ent):Str:=e.q.getD e.x
structure mh where
 T:List (Str×En)
 tw:List (Str×Str×Nat×Nat)
 xf:List Str
 dl:List (Str×List (Str×Nat))
 il:List (Str×Nat)
 cel:List (Nat×Nat×Nat)
 txt:List (Nat×Nat×Nat)
 ms:List (Str×Nat×Nat)
 rs:Rs
 tb:List Ent
def mh.g (t:mh)(e:Ent)(c:Call):G:={t.T,t.tw,t.xf,t.cel,t.txt,t.ms,c,e.N,aY e.st,2,[]}
noncomputable def mh.Pg (t:mh)(i:Nat):Option Df:=(t.tb.find? (·.i==i)).map λe=>⟨e.ps,e.N.length,e.b⟩
def mh.rd (t:mh)(c:Call)(e:Ent):Option GS:=oW ((It t.rs 60).s (t.g e c)) (cV e.st)
def B2 (e:Ent):Bool:=decide ((aY e.st).kind=.function)&&!(aY e.st).isCoroutine&&!(aY e.st).isGenerator&&decide e.N.Nodup&&((e.N.take e.ps).length==e.ps)&&((e.N.take e.ps).all λx=>(aY e.st).names.lookup x==some .local||(aY e.st).names.lookup x==some .cell)&&((aY e.st).names.all (·.2 != .free))
def oM (h:B2 e=true):iM e.N (e.N.take e.ps) (aY e.st)/\(e.N.take e.ps).length=e.ps:=by
 unfold B2 at h;simp only[O3,decide_eq_true_eq,Bool.not_eq_true',Pk,QJ,beq_iff_eq,bne_iff_ne] at h;obtain⟨⟨⟨⟨⟨⟨h1,h2⟩,h3⟩,h4⟩,j⟩,u⟩,v⟩:=h;exact{{h1,h2,h3,h4,by rw[j],u,v},j}
noncomputable def Ent.dV (e:Ent):OX:=if e.df=0 then .none else .ref e.df
def JC (e:Ent):Option Obj:=some {.type "function",none,.func (PySem.W.fnOf e.x e.qn (eE e.st) (cV e.st) (aY e.st) e.dV .none .none (.str e.pm.1 e.pm.2) none (.ref (e.f-1)) .none),#[]}
def lK {j u:Type}{f g:j->u}{l:List j}(h:l.map f=l.map g){a:j}(m:a∈l):f a=g a:=List.map_inj_left.mp h a m
def nU (e:Ent)(us:List OX)(kV j pm:OX)(u:Option Addr)(h ct:OX):Sem (List (Str×OX)):=bindArgs (PySem.W.fnOf e.x e.qn (eE e.st) (cV e.st) (aY e.st) e.dV kV j pm u h ct) {us,[]}
def ml (tb:List Ent)(k:Nat)(us:List OX):Prop:=∀(kV j pm:OX) (u:Option Addr) (h ct:OX),(tb.filter λe=>e.ps==k&&e.df==0).map (λe=>nU e us kV j pm u h ct)=(tb.filter λe=>e.ps==k&&e.df==0).map λe=>pure ((e.N.take e.ps).zip us)
structure xE (t:mh):Prop where
 rs:Cm t.rs
 rd:∀c,t.tb.map (t.rd c)=t.tb.map λe=>some (e.b c)
 sc:t.tb.all B2=true
 ar:t.tb.all (λe=>e.ps==0||e.ps==1||e.ps==2||e.ps==3||e.ps==4||e.ps==6||e.ps==5)=true
 a0:ml t.tb 0 []
 a1:∀a,ml t.tb 1 [a]
 a2:∀a b,ml t.tb 2 [a,b]
 a3:∀a b c,ml t.tb 3 [a,b,c]
 a4:∀a b c d,ml t.tb 4 [a,b,c,d]
 a6:∀a b c d e f,ml t.tb 6 [a,b,c,d,e,f]
 a5:∀a b c d e,ml t.tb 5 [a,b,c,d,e]
 ad:AllP (λe=>e.ps=2/\∀(a b kV doc pm:OX) (an:Option Addr) (cdv ct:OX),∃k k1,nU e [a,b] kV doc pm an cdv ct=seqItems? (.ref e.df) >>= k/\k (some #[.none])=pure ((e.N.take e.ps).zip [a,b])/\nU e [a] kV doc pm an cdv ct=seqItems? (.ref e.df) >>= k1/\k1 (some #[.none])=pure ((e.N.take e.ps).zip [a,.none])) (t.tb.filter λe=>!(e.df==0))
structure Ak (K:OU) (tb:List Ent):Prop where
 ns:(tb.filter (·.q.isNone)).map (λe=>PySem.W.nsIn K mainGlobals e.x)=(tb.filter (·.q.isNone)).map λe=>some (some (.ref e.f))
 lk:tb.map (λe=>K.lookup e.f)=tb.map JC
 dk:tb.all (λe=>e.df==0||(match K.lookup e.df with|some {_,_,.seq its _,_}=>its==#[.none]|_=>false))=true
 ck:tb.all (λe=>PySem.W.codeIn K (.ref (e.f-1)) e.qn&&PySem.W.keepIn K (.ref e.f))=true
def Hl {K:OU}{tb:List Ent}(k:Ak K tb)(m:e∈tb):xK K e.x e.qn e.st e.f (PySem.W.fnOf e.x e.qn (eE e.st) (cV e.st) (aY e.st) e.dV .none .none (.str e.pm.1 e.pm.2) none (.ref (e.f-1)) .none):=by
 have c:=Pk.mp k.ck e m;rw[O3] at c;exact{{_,_,_,_,_,_,_,_,_,_,rfl,lK k.lk m,c.1},c.2}
def EG {K:OU}{h:Heap}(k:Ak K tb)(X:K.In h)(G:h.Ns mainGlobals mg)(m:e∈tb)(u:e.q.isNone=true)(hd:e.df=0):mg e.x=some (.ref e.f)/\∃j,we K e.x e.qn e.st e.f j:=by
 have c:=Pk.mp k.ck e m;rw[O3] at c;have l:=lK k.lk m;unfold JC Ent.dV at l;rw[if_pos hd] at l;exact{Qy X G (lK k.ns (Q6.mpr ⟨m,u⟩)),_,Ju l c.1 c.2}
def us6 {j:Type}{p:List j->Prop}(h:∀a b c d e f,p [a,b,c,d,e,f]):∀(us:List j) (hl:us.length=6),p us
 |[a,b,c,d,e,f],_=>h a b c d e f
def us5 {j:Type}{p:List j->Prop}(h:∀a b c d e,p [a,b,c,d,e]):∀(us:List j) (hl:us.length=5),p us
 |[a,b,c,d,e],_=>h a b c d e
def A1 {t:mh}(T:xE t){e:Ent}(m:e∈t.tb)(H:e.df=0)(kV B pm:OX)(E:Option Addr)(j ct:OX):∀us:List OX,us.length=(e.N.take e.ps).length->nU e us kV B pm E j ct=pure ((e.N.take e.ps).zip us):=by
 have hl:=(oM (Pk.mp T.sc e m)).2;have a:=Pk.mp T.ar e m;have f:∀{k:Nat}{us:List OX},e.ps=k->ml t.tb k us->nU e us kV B pm E j ct=pure ((e.N.take e.ps).zip us):=λ{k us} hk F=>lK (F kV B pm E j ct) (Q6.mpr {m,by rw[hk,H];simp})
 rw[hl];simp only[QJ,beq_iff_eq] at a;rcases a with(((((a|a)|a)|a)|a)|a)|a
 ·rw[a];exact λus h=>by rw[QH.mp h];exact a ▸ f a T.a0
 ·rw[a];exact us1 λx=>a ▸ f a (T.a1 x)
 ·rw[a];exact us2 λx y=>a ▸ f a (T.a2 x y)
 ·rw[a];exact us3 λx y z=>a ▸ f a (T.a3 x y z)
 ·rw[a];exact us4 λx y z u=>a ▸ f a (T.a4 x y z u)
 ·rw[a];exact us6 λx y z u v w=>a ▸ f a (T.a6 x y z u v w)
 ·rw[a];exact us5 λx y z u v=>a ▸ f a (T.a5 x y z u v)
section
variable{fa:Fa}{P:PH}{w:PC}{K:OU}{mg:Str->Option OX}{base:Heap}{t:mh}
def sj (T:xE t)(TO:D5 fa P w K mg base t.T)(tw:∀q∈t.tw,wc fa K mg q.1 q.2.1 q.2.2.1 q.2.2.2)(xf:∀f∈t.xf,D3 fa K f)(ms:∀q∈t.ms,pC fa K q.1 q.2.1 q.2.2){e:Ent}(m:e∈t.tb){ad:Addr}(call:Call)(n:Nat)(j:OX)(A:Qx)(outer:List Qu)(s:O0)(H:Hp)(E:XK)
 (C:∀f,eD fa P w K mg base n f (call f)) (hr:bK (2*n+5) (A.deeper (envOfC e.qn (aY e.st) s.heap.objs.size ad j))):j7 fa (fF (ib P w) P w K mg base e.N e.qn (aY e.st) ad j A outer s H E) (cV e.st) (e.b call):=by
 have S:=(oM (Pk.mp T.sc e m)).1;exact g9 ((D9 T.rs 60).s (g:=t.g e call) (X:=fF (ib P w) P w K mg base e.N e.qn (aY e.st) ad j A outer s H E) {rfl,S.nd,rfl,TO,tw,xf,ms,λ_ _=>rfl,(λ_ h=>nomatch h),λ_=>rfl,λ_=>C,λ_=>hr,λ_=>⟨rfl,rfl,rfl,S.kind⟩,λ_=>PassesOwn.leaving}) (lK (T.rd call) m)
set_option tactic.hygienic true in
def yo (k:Ak K tb)(m:en∈tb)(h:en.df≠0)(X:K.In s.heap)(e1:nU en us .none .none (.str en.pm.1 en.pm.2) none (.ref (en.f-1)) .none=seqItems? (.ref en.df) >>= kk)(e2:kk (some #[.none])=pure out) :
 BindsTo s (PySem.W.fnOf en.x en.qn (eE en.st) (cV en.st) (aY en.st) en.dV .none .none (.str en.pm.1 en.pm.2) none (.ref (en.f-1)) .none) {us,[]} out:=by
 have dk:=Pk.mp k.dk en m;rw[QJ] at dk;rcases dk with dk|dk
 ·exact absurd (eq_of_beq dk) h
 split at dk
 ·next lk=>
  have q:=eq_of_beq dk;subst q;exact BindsTo.of_defaults (by show en.dV=_;unfold Ent.dV;rw[if_neg h]) (X _ _ lk) rfl (by show nU en us _ _ _ _ _ _=seqItems? en.dV >>= _;unfold Ent.dV;rw[if_neg h];exact e1) e2
 ·cases dk
def A0 (T:xE t)(k:Ak K t.tb)(X:K.In h)(G:h.Ns mainGlobals mg)(TO:D5 fa P w K mg base t.T)(tw:∀q∈t.tw,wc fa K mg q.1 q.2.1 q.2.2.1 q.2.2.2)(xf:∀f∈t.xf,D3 fa K f)(ms:∀q∈t.ms,pC fa K q.1 q.2.1 q.2.2)(hf:t.tb.all (λe=>fa e.i==some e.f&&(!(fa (500+e.i)).isSome||!(e.df==0)))=true) :
 ∀f d,t.Pg f=some d->xM fa P w K mg base f d:=by
 intro f d e;obtain⟨en,he,rfl⟩:=O8.mp e;have m:=List.mem_of_find?_eq_some he;have J:en.i=f:=by have:=List.find?_some he;simpa using this
 have F:=Hl k m;obtain⟨S,hl⟩:=oM (Pk.mp T.sc en m);have u:=Pk.mp hf en m;rw[O3,QJ] at u;have M:fa f=some en.f:=by rw[<- J];exact eq_of_beq u.1
 have B:Binds K (PySem.W.fnOf en.x en.qn (eE en.st) (cV en.st) (aY en.st) en.dV .none .none (.str en.pm.1 en.pm.2) none (.ref (en.f-1)) .none) (en.N.take en.ps) []:=by
  by_cases v:en.df=0
  ·exact .all (A1 T m v _ _ _ _ _ _)
  ·intro s I X j;obtain⟨h2,hk⟩:=T.ad.mem en (Q6.mpr {m,by simpa using v})
   rw[Qr] at j ⊢;rw[hl,h2] at j
   match I,j with
   | [a, b], _ =>
     obtain⟨kk,_,e1,e2,_⟩:=hk a b .none .none (.str en.pm.1 en.pm.2) none (.ref (en.f-1)) .none;exact yo k m v X e1 e2
 have L:(fa (500+f)).isSome=true->Binds K (PySem.W.fnOf en.x en.qn (eE en.st) (cV en.st) (aY en.st) en.dV .none .none (.str en.pm.1 en.pm.2) none (.ref (en.f-1)) .none) (en.N.take en.ps) [.none]:=λhs s I X j=>by
  have v:en.df≠0:=by
   rcases u.2 with z|z
   ·rw[J,hs] at z;cases z
   ·simpa using z
  obtain⟨h2,hk⟩:=T.ad.mem en (Q6.mpr {m,by simpa using v})
  rw[hl,h2,O9] at j
  match I,j with
  | [a], _ =>
    obtain⟨_,kk,_,_,e1,e2⟩:=hk a .none .none .none (.str en.pm.1 en.pm.2) none (.ref (en.f-1)) .none;exact yo k m v X e1 e2
 exact{en.f,_,en.N.take en.ps,en.N,en.st,en.x,en.qn,M,F,B,L,S,hl.symm,rfl,λcall n y A outer s H E C hr=>sj T TO tw xf ms m call n y A outer s H E C hr}
noncomputable def JD (K:OU)(fa:Fa)(t:mh)(p:Str×En):Bool:=match p.2 with
 |.fn i _=>(match PySem.W.nsIn K mainGlobals p.1 with|some (some (.ref a))=>fa i==some a|_=>false)
 |.fnD i=>(match PySem.W.nsIn K mainGlobals p.1 with|some (some (.ref a))=>fa i==some a&&(fa (500+i)).isSome|_=>false)
 |.int i=>(match PySem.W.nsIn K mainGlobals p.1 with|some (some (.int j _))=>i==j|_=>false)
 |.str i=>(match PySem.W.nsIn K mainGlobals p.1 with|some (some (.str j _))=>i==j|_=>false)
 |.xc k=>(match PySem.W.nsIn K mainGlobals p.1 with|some (some (.ref a))=>fa (ft k)==some a&&PySem.W.excIn K a Ac "ValueError.__new__"&&PySem.W.keepIn K (.ref a)|_=>false)
 |.xi k=>(match PySem.W.nsIn K mainGlobals p.1 with|some (some (.ref a))=>fa (ft k)==some a&&t.il.contains (p.1,k)|_=>false)
 |.xk k=>(match PySem.W.nsIn K mainGlobals p.1 with|some (some (.ref a))=>fa (ft k)==some a|_=>false)
 |.de=>(match PySem.W.nsIn K mainGlobals p.1 with|some (some (.ref a))=>fa 999==some a|_=>false)
 |.bl=>(match PySem.W.nsIn K mainGlobals p.1 with|some none=>true|_=>false)
 |.dct fs=>t.dl.contains (p.1,fs)
 |.cls c f=>(match PySem.W.nsIn K mainGlobals p.1 with|some (some (.ref a))=>fa (fj c)==some a&&PySem.W.makesIn K a&&PySem.W.keepIn K (.ref a)&&(match fa f with|some ad=>PySem.W.findIn K (.ref a) "__init__"==some (some (.ref ad))&&PySem.W.isFn K (.ref ad)|none=>true)|_=>false)
set_option tactic.hygienic true in
def EF (X:K.In h)(G:h.Ns mainGlobals mg)(I:t.T.all (JD K fa t)=true)(J:Kq fa K)(z:Al fa K)(E:∀o,5000<=o->fa o=none)(B:fa (fj 77)=none/\fa (fj 78)=none)(hd:AllP (λq=>∃ad j,mg q.1=some (.ref ad)/\fc K w.params ad j/\dZ fa j q.2) t.dl)(hi:AllP (λq=>Am fa P w K mg base q.2 q.1) t.il):D5 fa P w K mg base t.T:=by
 have F:∀{x:Str}{e:En},t.T.lookup x=some e->JD K fa t (x,e)=true:=λ{x e} l=>Pk.mp I _ (mem_of_lookup l);refine{λ{x i r} l ad v=>?_,λ{x i} l=>?_,λ{x i} l=>?_,λ{x i} l=>?_,λ{x fs} l=>?_,λ{x k} l=>?_,λ{x k} l=>?_,λ{x k} l=>?_,λ{x} l=>?_,λ{x} l=>?_,J,z,E,B,λ{x c f} l=>?_};all_goals have b:=F l;unfold JD at b;dsimp only at b
 ·split at b
  ·next e=>have b:=eq_of_beq b;rw[v] at b;cases b;exact Qy X G e
  ·cases b
 ·split at b
  ·next e=>rw[O3] at b;exact{λad v=>by have H:=eq_of_beq b.1;rw[v] at H;cases H;exact Qy X G e,b.2}
  ·cases b
 ·split at b
  ·next e=>have b:=eq_of_beq b;subst b;exact{_,Qy X G e}
  ·cases b
 ·split at b
  ·next e=>have b:=eq_of_beq b;subst b;exact{_,Qy X G e}
  ·cases b
 ·exact hd.mem (x,fs) (List.contains_iff_mem.mp b)
 ·split at b
  ·next e=>simp only[O3] at b;exact{_,Qy X G e,eq_of_beq b.1.1,b.1.2,b.2}
  ·cases b
 ·split at b
  ·next e=>rw[O3] at b;exact{hi.mem (x,k) (List.contains_iff_mem.mp b.2),_,Qy X G e,eq_of_beq b.1}
  ·cases b
 ·split at b
  ·next e=>exact{_,Qy X G e,eq_of_beq b}
  ·cases b
 ·split at b
  ·next e=>exact{_,Qy X G e,eq_of_beq b}
  ·cases b
 ·split at b
  ·next e=>exact PySem.W.mg_none_of X G e
  ·cases b
 ·split at b
  ·next a e=>
   simp only[O3] at b;refine{a,Qy X G e,eq_of_beq b.1.1.1,λad y=>?_};have u:=b.2;rw[y] at u;simp only[O3] at u;exact{b.1.1.2,eq_of_beq u.1,u.2,b.1.2}
  ·cases b
end
noncomputable def xv (K:OU)(C:Addr):Bool:=PySem.W.plainGet K C Str.empty&&PySem.W.hasDictIn K C&&PySem.W.plainOver K C&&PySem.W.findIn K (.ref C) "__setattr__"==some (some (.builtin "object.__setattr__"))
def zZ {K:OU}(h:xv K C=true):jf K C:=by
 unfold xv at h;simp only[O3] at h;exact{h.1.1.1,h.1.1.2,h.1.2,eq_of_beq h.2}
def IH (K:OU)(fa:Fa):Bool:=match fa (fj 40) with
 |some C=>xv K C&&(b4 40).all λf=>PySem.W.findIn K (.ref C) f==some none
 |none=>true
def IG {K:OU}(h:IH K fa=true):Al fa K:=λc C e ne=>by
 have j:c=40:=by
  unfold b4 at ne;split at ne
  ·rfl
  ·exact absurd rfl ne
 subst j;unfold IH at h;rw[e] at h;simp only[O3,Pk] at h;exact{zZ h.1,λf m=>eq_of_beq (h.2 f m)}
def IY (K:OU)(fa:Fa)(q:Str×Nat×Nat):Bool:=match fa (fj q.2.1) with
 | some C => xv K C && (match fa q.2.2 with
   |some ad=>PySem.W.findIn K (.ref C) q.1==some (some (.ref ad))&&PySem.W.isFn K (.ref ad)&&PySem.W.keepIn K (.ref ad)
   |none=>true)&&!(b4 q.2.1).contains q.1&&!(b4 q.2.1).isEmpty
 |none=>false
def IX {K:OU}{l:List (Str×Nat×Nat)}(h:l.all (IY K fa)=true):∀q∈l,pC fa K q.1 q.2.1 q.2.2:=λq m=>by
 have h:=Pk.mp h q m;unfold IY at h;cases e:fa (fj q.2.1) with
 |none=>rw[e] at h;cases h
 | some C =>
   rw[e] at h;simp only[O3,Bool.not_eq_true'] at h;refine{C,e,zZ h.1.1.1,λad j=>?_,λz=>?_,λz=>?_}
   ·have b:=h.1.1.2;rw[j] at b;simp only[O3] at b;exact{eq_of_beq b.1.1,b.1.2,b.2}
   ·have:=List.contains_iff_mem.mpr z;rw[h.1.2] at this;cases this
   ·rw[z] at h;exact absurd h.2 `d
def BZ {D:Addr}(h:cl.all (λq=>decide (q.1<4000))=true):∀o,5000<=o->t8 l cl D o=none:=λo ho=>by
 unfold t8;rw[if_neg `a,if_neg `a]
 cases e:cl.lookup (o-1000) with
 |none=>rfl
 | some C =>
   have:=of_decide_eq_true (Pk.mp h _ (lookup_mem e));omega
end LD
section
local macro_rules|`(#[$a,*])=>do return<-a.getElems.foldrM (β:=Lean.Term) (λx r=>`(LD.b7 $x $r)) (<-`(LD.bx))
local macro_rules|`(#v[$a,*])=>do return<-a.getElems.foldrM (β:=Lean.Term) (λx r=>`(LD.aT $x $r)) (<-`(LD.aE))
namespace LD
open PySem
abbrev gI (n:Int):GE:=gC (.int n)
abbrev gS (x:Str):GE:=gC (.str x)
abbrev gN:GE:=gC .non
abbrev Js:GE:=gC (.bl true)
abbrev gFf:GE:=gC (.bl false)
abbrev rF:GS:=aT (aD gFf) aE
noncomputable def dS:List (Str×Nat):=[("turn",7),("join",8),("move",9),("put",10)]
def cD:List (Str×Nat):=[("turn",20),("join",21),("move",22),("put",23)]
def i9 (c:Call):GS:=#v[aL (ff (aq (f5 .bool (aa 0))) (b3 (aq (f5 .int (aa 0))))) rF aE,aD (tZ .le .le (aa 1) (aa 0) (aa 2))]
def lZ (c:Call):GS:=#v[aD (ah 0 c #[aa 1,gI 0,ai false .sub (aa 0) (gI 1)])]
def kW (c:Call):GS:=#v[aD (ah 0 c #[aa 1,gI 0,ai false .sub (aa 0) (gI 1)])]
def l9 (c:Call):GS:=#v[aD (ah 0 c #[aa 0,gI 1,gI 3])]
def h9 (c:Call):GS:=#v[aD (fE (f5 .tuple (aa 1)) (aH .eq (aA .len #[aa 1]) (aa 0)))]
def kU (c:Call):GS:=#v[aD (fE (ah 4 c #[aa 0,aa 1]) (aA .all #[cz false 1 (.one 0) (dA (aa 1)) (cy (ah 1 c #[aa 1,aa 0]))]))]
def fi (c:Call):GS:=#v[aD (fE (ah 4 c #[aa 0,aa 1]) (aA .all #[cz false 1 (.one 0) (dA (aa 1)) (cy (ah 5 c #[aa 1,aa 0]))]))]
def l4 (c:Call):GS:=#v[aL (aq (aH .ne (aA .len #[aa 2]) (gI 3))) rF aE,aw (.tup [3,4,5]) (aa 2),aD (fE (ah 2 c #[aa 1,aa 3]) (fE (ah 5 c #[aa 0,aa 4]) (ah 3 c #[aa 5])))]
def l6 (c:Call):GS:=#v[aL (aq (aH .ne (aA .len #[aa 2]) (gI 4))) rF aE,aw (.tup [3,4,5,6]) (aa 2),aL (ff (b3 (aq (ah 2 c #[aa 1,aa 3]))) (b3 (aq (ah 2 c #[aa 1,aa 4])))) rF aE,aD (fE (ah 6 c #[aa 0,aa 5]) (ah 3 c #[aa 6]))]
def l5 (c:Call):GS:=#v[aL (aq (aH .ne (aA .len #[aa 2]) (gI 3))) rF aE,aw (.tup [3,4,5]) (aa 2),aD (fE (ah 2 c #[aa 1,aa 3]) (fE (ah 2 c #[aa 1,aa 4]) (ah 3 c #[aa 5])))]
def nX (c:Call):GS:=#v[aL (aq (aH .ne (aA .len #[aa 2]) (gI 3))) rF aE,aw (.tup [3,4,5]) (aa 2),aD (fE (ah 2 c #[aa 1,aa 3]) (fE (ah 1 c #[aa 0,aa 4]) (ah 3 c #[aa 5])))]
def l7 (c:Call):GS:=#v[aL (ff (b3 (aq (f5 .tuple (aa 2)))) (b3 (aq (aa 2)))) rF aE,aw (.one 3) (aS (aa 2) (gI 0)),aL (ff (b3 (aq (f5 .str (aa 3)))) (aq (iu dS (aa 3)))) rF aE,aw (.one 4) (kD dS (aa 3)),aD (lW 4 c #[aa 0,aa 1,bN false true false (aa 2) (gI 1) gN])]
def i8 (c:Call):GS:=#v[aL (b3 (aq (ah 4 c #[gI 3,aa 0]))) rF aE,aw (.tup [1,2,3]) (aa 0),aL (ff (b3 (aq (ah 0 c #[aa 1,gI 2,gI 4]))) (b3 (aq (ah 0 c #[aa 2,gI 1,gI 2])))) rF aE,aL (ff (b3 (aq (f5 .tuple (aa 3)))) (b3 (aq (tZ .le .le (gI 1) (aA .len #[aa 3]) (gI 6))))) rF aE,aD (aA .all #[cz false 1 (.one 0) (dA (aa 3)) (cy (ah 11 c #[aa 2,aa 3,aa 0]))])]
def gE (c:Call):GS:=#v[aL (b3 (aq (ah 12 c #[aa 0]))) #v[di 3 #[gS "this is no machine"]] aE]
def bG (c:Call):GS:=#v[fB (bf 13 c #[aa 0]),aw (.tup [1,2,3]) (aa 0),aw (.one 4) (bt false #[bu bx]),dz (.one 5) (eI (aa 2)) #v[aw (.one 4) (cz false 2 (.one 0) (dA (aa 4)) (tX (.one 1) (eI (aa 3)) (cy (ai false .add (aa 0) (bu #[aa 1])))))],aD (aa 4)]
def fG (c:Call):GS:=#v[aD (ah 0 c #[aa 1,gI 0,ai false .sub (aA .len #[aS (aa 0) (gI 2)]) (gI 1)])]
def gD (c:Call):GS:=#v[aL (b3 (aq (f5 .list (aa 1)))) #v[wH] aE,dz (.tup [2,3]) (ir (aa 1)) #v[aL (b3 (aq (ah 16 c #[aa 0,aa 3]))) #v[wH] aE]]
def kS (c:Call):GS:=#v[fB (bf 13 c #[aa 0]),fB (bf 17 c #[aa 0,aa 1]),aL (aq (aH .gt (aA .len #[aa 1]) (gI 40))) #v[di 4 #[mZ "a row has at most " " deeds" (gI 40)]] aE]
def j3 (c:Call):GS:=#v[fB (bf 18 c #[aa 0,aa 1]),aD (ah 47 c #[aa 0,aa 1])]
def kM (c:Call):GS:=#v[aw (.tup [2,3,4,5]) (aa 0),aD (aS (aa 4) (aS (aa 1) (aa 3)))]
def kT (c:Call):GS:=#v[aw (.tup [2,3,4,5,6]) (aa 0),aD (aS (aS (aa 5) (aS (aa 1) (aa 3))) (aS (aa 1) (aa 4)))]
def mR (c:Call):GS:=#v[aw (.tup [2,3,4,5]) (aa 0),aD (aS (aa 1) (aa 4))]
def kQ (c:Call):GS:=#v[aw (.tup [2,3,4,5]) (aa 0),aD (aa 4)]
def pf (c:Call):GS:=#v[aw (.one 2) (kD cD (aS (aa 0) (gI 0))),aw (.one 3) (aS (aa 0) (gI 1)),aD (ai false .add (ai false .add (bN false false true (aa 1) gN (aa 3)) (bu #[lW 2 c #[aa 0,aa 1]])) (bN false true false (aa 1) (ai false .add (aa 3) (gI 1)) gN))]
def gF (c:Call):GS:=#v[aw (.one 3) (bt true #[aa 2]),dz (.one 4) (dA (aa 1)) #v[fC (aa 3) (ah 24 c #[aS (aS (aa 0) (gI 2)) (aa 4),aS (aa 3) (fh (gI 1))])],aD (aa 3)]
def fv (c:Call):GS:=#v[fB (bf 18 c #[aa 0,aa 1]),aD (ah 46 c #[aa 0,aa 1])]
def lj (c:Call):GS:=#v[aL (aq (aH .ge (aa 0) (ai false .pow (gI 10) (gI 18)))) #v[aD (aa 0)] aE,aw (.one 2) (bt false #[gI 2147483629,gI 2147483587,gI 2147483579,gI 2147483563,gI 2147483549,gI 2147483543,gI 2147483497,gI 2147483489]),aw (.one 2) (ai false .add (aa 2) (bt false #[gI 2147483477,gI 2147483423,gI 2147483399,gI 2147483353,gI 2147483323])),aw (.one 3) (ai false .mod (ai false .pow (ai false .add (ai false .add (ai false .mul (ai false .mod (aa 0) (gI 1000000007)) (ai false .add (ai false .mul (gI 2) (aa 1)) (gI 69069))) (ai false .mul (aa 1) (gI 40503))) (gI 977)) (gI 3)) (aS (aa 2) (ai false .mod (aa 1) (gI 13)))),aw (.one 4) (ai false .mod (ai false .pow (ai false .add (ai false .add (ai false .mul (aa 3) (ai false .add (aa 1) (gI 3))) (ai false .mod (aa 0) (gI 65537))) (gI 5)) (gI 5)) (aS (aa 2) (ai false .mod (ai false .add (aa 1) (gI 5)) (gI 13)))),aw (.one 5) (ai false .mod (ai false .pow (ai false .add (ai false .add (aa 4) (ai false .mod (aa 3) (gI 1009))) (aa 1)) (gI 3)) (aS (aa 2) (ai false .mod (ai false .add (aa 1) (gI 7)) (gI 13)))),aD (ai false .add (ai false .mul (ai false .add (ai false .mul (aa 3) (gI 2147483647)) (aa 4)) (gI 2147483647)) (aa 5))]
def jH (c:Call):GS:=#v[aw (.one 1) (aA (.list true) #[bN false false true (aa 0) gN (gI 12)]),dz (.tup [2,3]) (ir (bN false true true (aa 0) (gI 12) (gI 63))) #v[fA (aa 1) (ai false .mod (aa 2) (gI 12)) (ai false .add (aS (aa 1) (ai false .mod (aa 2) (gI 12))) (aa 3))],aD (bt true #[aa 1,gI 0,gI 0])]
def jI (c:Call):GS:=#v[fA (aa 0) (gI 2) (gI 0),aD (aa 0)]
def m9 (c:Call):GS:=#v[aL (aq (aH .lt (aS (aa 0) (gI 2)) (aa 1))) #v[aw (.one 2) (aS (aa 0) (gI 1)),aw (.one 3) (gI 0),aL (aq (aH .lt (aa 2) (aA .len #[aS (aa 0) (gI 0)]))) #v[aw (.one 3) (aS (aS (aa 0) (gI 0)) (aa 2))] #v[aL (aq (aH .gt (aA .len #[aS (aa 0) (gI 0)]) (gI 0))) #v[aw (.one 3) (ai false .mod (aS (aS (aa 0) (gI 0)) (ai false .mod (ai false .add (ai false .mul (aa 2) (gI 5)) (gI 3)) (aA .len #[aS (aa 0) (gI 0)]))) (ai false .add (ai false .pow (gI 10) (gI 17)) (aa 2)))] aE],fA (aa 0) (gI 1) (ai false .add (aa 2) (gI 1)),fA (aa 0) (gI 2) (ah 28 c #[aa 3,aa 2])] aE,aw (.one 4) (ai false .mod (aS (aa 0) (gI 2)) (aa 1)),fA (aa 0) (gI 2) (ai false .fdiv (aS (aa 0) (gI 2)) (aa 1)),aD (aa 4)]
def iy (c:Call):GS:=#v[aw (.one 2) (ah 31 c #[aa 0,gI 6]),aw (.one 3) (ah 31 c #[aa 0,aa 1]),aw (.one 4) (ah 31 c #[aa 0,aa 1]),aL (aq (aH .lt (aa 2) (gI 2))) #v[aD (aA .tuple #[cz false 1 (.one 0) (eI (aa 1)) (cy (ah 31 c #[aa 1,aa 2]))])] aE,aL (aq (aH .eq (aa 2) (gI 2))) #v[aD (aA .tuple #[cz false 1 (.one 0) (eI (aa 1)) (cy (ai false .mod (ai false .add (ai false .add (aa 0) (gI 1)) (aa 4)) (aa 2)))])] aE,aL (aq (aH .eq (aa 2) (gI 3))) #v[aD (aA .tuple #[cz false 1 (.one 0) (eI (aa 1)) (cy (fZ (aq (aH .eq (aa 0) (aa 4))) (aa 5) (aa 0)))])] aE,aL (aq (aH .eq (aa 2) (gI 4))) #v[aD (ai false .mul (bu #[aa 3]) (aa 1))] aE,aw (.one 5) (lU true (aa 1)),fA (aa 5) (aa 3) (aa 4),fA (aa 5) (aa 4) (aa 3),aD (aA .tuple #[aa 5])]
def gO (c:Call):GS:=#v[aw (.one 3) (ah 31 c #[aa 0,gI 8]),aw (.one 4) (ai false .add (gI 1) (ah 31 c #[aa 0,gI 3])),aw (.one 5) (ah 31 c #[aa 0,aa 2]),aw (.one 6) (ah 31 c #[aa 0,aa 2]),aL (aq (aH .lt (aa 3) (gI 3))) #v[aD (bu #[gS "turn",aa 5,ah 32 c #[aa 0,aa 1],aa 4])] aE,aL (aq (aH .lt (aa 3) (gI 5))) #v[aD (bu #[gS "move",aa 5,fZ (aq (aH .eq (aa 3) (gI 3))) (ai false .mod (ai false .add (aa 5) (gI 1)) (aa 2)) (aa 6),aa 4])] aE,aL (aq (aH .eq (aa 3) (gI 5))) #v[aD (bu #[gS "put",aa 5,ah 31 c #[aa 0,aa 1],aa 4])] aE,aD (bu #[gS "join",aa 5,aa 6,aA .tuple #[cz false 1 (.one 0) (eI (aa 1)) (cy (ah 32 c #[aa 1,aa 2]))],aa 4])]
def fb (c:Call):GS:=#v[aw (.one 1) (ai false .add (gI 2) (ah 31 c #[aa 0,ai false .sub (aa 1) (gI 1)])),aw (.one 2) (ai false .add (gI 1) (ah 31 c #[aa 0,aa 2])),aw (.one 4) (bt true bx),dz (.one 5) (eI (ai false .add (gI 1) (ah 31 c #[aa 0,aa 3]))) #v[aw (.one 6) (ah 31 c #[aa 0,gI 5]),aw (.one 7) (ah 33 c #[aa 0,aa 1,aa 2]),aL (d8 (aq (aH .eq (aa 6) (gI 0))) (aq (aH .ne (aa 4) (bt false bx)))) #v[aw (.one 7) (ai false .add (bN false false true (aS (aa 4) (ah 31 c #[aa 0,aA .len #[aa 4]])) gN (fh (gI 1))) (bu #[aS (aa 7) (fh (gI 1))]))] aE,fC (aa 4) (aa 7)],aD (bu #[aa 1,aa 2,aA .tuple #[aa 4]])]
def gm (c:Call):GS:=#v[aw (.one 3) (ah 31 c #[aa 0,gI 4]),aw (.one 4) (fZ (aq (aH .eq (aa 3) (gI 0))) (aa 2) (ah 31 c #[aa 0,ai false .add (aa 2) (gI 1)])),aw (.one 5) (cz false 1 (.one 0) (eI (aa 4)) (cy (ah 31 c #[aa 1,aA .len #[aS (aa 2) (gI 2)]]))),aL (aq (aH .eq (aa 3) (gI 1))) #v[aw (.one 5) (bN false false true (ai false .mul (bN false false true (aa 5) gN (gI 2)) (aa 4)) gN (aa 4))] aE,aD (aa 5)]
def eP (c:Call):GS:=#v[aD (aA .tuple #[cz false 1 (.one 0) (dA (ah 15 c #[aa 0])) (cy (aS (ah 25 c #[aa 1,aa 2,aa 0]) (fh (gI 1))))])]
def b8 (c:Call):GS:=#v[aD (aA .sum #[cz false 1 (.one 0) (dA (aa 1)) (cy (aS (aS (aS (aa 1) (gI 2)) (aa 0)) (fh (gI 1))))])]
def nW (c:Call):GS:=#v[cv (.one 3) (bf 27 c #[aa 0,aa 1]),cv (.one 4) (bf 27 c #[aa 0,aa 2]),dz (.tup [5,6,7]) (mI (ah 15 c #[aa 0]) (aa 3) (aa 4)) #v[aL (aq (aH .ne (aa 6) (aa 7))) #v[aD (aa 5)] aE],aD gN]
def ma (c:Call):GS:=#v[aD (aA .sum #[cz false 1 (.one 0) (dA (aa 1)) (cy (aS (aS (aS (aa 1) (gI 2)) (aa 0)) (fh (gI 1))))])]
def GC (c:Call):GS:=#v[gU (aq Js) #v[wG]]
def jy (c:Call):GS:=#v[fB (bf 18 c #[aa 1,aa 2]),jm "machine" (aa 0) (aa 1),jm "standing" (aa 0) (aA (.list false) #[aa 2]),jm "earlier" (aa 0) (bt true bx)]
def pj (c:Call):GS:=#v[aD (aA (.list true) #[dg "standing" (aa 0)])]
def nh (c:Call):GS:=#v[aD (ah 47 c #[dg "machine" (aa 0),dg "standing" (aa 0)])]
def ja (c:Call):GS:=#v[aD (ah 46 c #[dg "machine" (aa 0),dg "standing" (aa 0)])]
def pq (c:Call):GS:=#v[aL (b3 (aq (ah 0 c #[aa 1,gI 0,aA .len #[dg "standing" (aa 0)]]))) #v[di 9 #[gS "no deed can be put in there"]] aE,aL (b3 (aq (ah 16 c #[dg "machine" (aa 0),aa 2]))) #v[di 10 #[gS "the machine has no such deed"]] aE,aL (aq (aH .ge (aA .len #[dg "standing" (aa 0)]) (gI 40))) #v[di 4 #[mZ "a row has at most " " deeds" (gI 40)]] aE,aD (cx 40 136 c (aa 0) #[ai false .add (ai false .add (bN false false true (dg "standing" (aa 0)) gN (aa 1)) (bt false #[aa 2])) (bN false true false (dg "standing" (aa 0)) (aa 1) gN)])]
def xA (c:Call):GS:=#v[aL (b3 (aq (ah 0 c #[aa 1,gI 0,ai false .sub (aA .len #[dg "standing" (aa 0)]) (gI 1)]))) #v[di 9 #[gS "no deed stands there"]] aE,aD (cx 40 136 c (aa 0) #[ai false .add (bN false false true (dg "standing" (aa 0)) gN (aa 1)) (bN false true false (dg "standing" (aa 0)) (ai false .add (aa 1) (gI 1)) gN)])]
def uU (c:Call):GS:=#v[aL (b3 (aq (dg "earlier" (aa 0)))) #v[di 11 #[gS "no change stands"]] aE,aD (cx 40 137 c (aa 0) #[Od (dg "earlier" (aa 0))])]
def lq (c:Call):GS:=#v[fC (dg "earlier" (aa 0)) (dg "standing" (aa 0)),aD (cx 40 137 c (aa 0) #[aa 1])]
def ng (c:Call):GS:=#v[cv (.one 2) (bf 48 c #[dg "machine" (aa 0),dg "standing" (aa 0),aa 1]),jm "standing" (aa 0) (aa 1),aD (aa 2)]
def rM (c:Call):GS:=#v[aw (.one 3) (ah 31 c #[aa 0,gI 4]),aw (.one 4) (aS (aa 2) (fh (gI 1))),aw (.one 5) (ah 31 c #[aa 0,ai false .add (aA .len #[aa 4]) (gI 1)]),aw (.one 6) (ah 31 c #[aa 0,aA .len #[aS (aa 1) (gI 2)]]),aL (d8 (aq (aH .eq (aa 3) (gI 0))) (aq (aH .gt (aA .len #[aa 2]) (gI 1)))) #v[aD (bu #[bN false false true (aa 2) gN (fh (gI 1)),bu bx])] aE,aL (d8 (ff (aq (aH .eq (aa 3) (gI 1))) (aq (aH .eq (aA .len #[aa 4]) (gI 40)))) (aq (aH .ne (aa 4) (bt false bx)))) #v[aw (.one 5) (ai false .mod (aa 5) (aA .len #[aa 4])),aD (bu #[ai false .add (aa 2) (bt false #[ai false .add (bN false false true (aa 4) gN (aa 5)) (bN false true false (aa 4) (ai false .add (aa 5) (gI 1)) gN)]),bu #[aa 5]])] aE,aD (bu #[ai false .add (aa 2) (bt false #[ai false .add (ai false .add (bN false false true (aa 4) gN (aa 5)) (bt false #[aa 6])) (bN false true false (aa 4) (aa 5) gN)]),bu #[aa 5,aa 6]])]
def Af (c:Call):GS:=#v[aL (aq (aH .eq (aA .len #[aa 1]) (gI 2))) #v[aD (cx 40 133 c (aa 0) #[aS (aa 1) (gI 0),aS (aa 1) (gI 1)])] aE,aD (fZ (aq (aH .eq (aa 1) (bu bx))) (cx 40 135 c (aa 0) bx) (cx 40 134 c (aa 0) #[aS (aa 1) (gI 0)]))]
def lp (c:Call):GS:=#v[dz (.tup [3,4,5]) (mI (ah 42 c #[aa 0]) (ah 44 c #[aa 0,aa 1]) (ah 44 c #[aa 0,aa 2])) #v[aL (aq (aH .ne (aa 4) (aa 5))) #v[aD (aa 3)] aE],aD gN]
def rL (c:Call):GS:=#v[aD (bt false #[bt false #[gI 0,gI 1,gI 2],bt false #[gI 0,gI 2,gI 1],bt false #[gI 1,gI 0,gI 2],bt false #[gI 1,gI 2,gI 0],bt false #[gI 2,gI 0,gI 1],bt false #[gI 2,gI 1,gI 0]])]
def ph (c:Call):GS:=#v[dz (.one 4) (dA (ai false .add (aS (ah 141 c bx) (aa 3)) (bt false #[gI 0,gI 1,gI 2]))) #v[aL (aq (aH .eq (aa 4) (gI 0))) #v[aw (.one 5) (cx 40 130 c (aa 0) bx),aL (b3 (aq (ah 40 c #[aa 5,aa 2]))) rF aE,fC (aa 5) (gI 0)] aE,aL (d8 (aq (aH .eq (aa 4) (gI 1))) (b3 (aq (ah 40 c #[cx 40 131 c (aa 0) bx,ah 89 c #[aa 1,aa 2]])))) rF aE,aL (d8 (aq (aH .eq (aa 4) (gI 2))) (b3 (aq (ah 40 c #[cx 40 132 c (aa 0) bx,ah 44 c #[aa 1,aa 2]])))) rF aE],aD Js]
def dw (c:Call):GS:=#v[cv (.one 1) (bf 15 c #[aa 0]),aD (cz false 1 (.one 0) (dA (aS (aa 0) (gI 2))) (cy (bu #[aS (aa 0) (fh (gI 1)),jY 77 1 (.one 0) (dA (aa 2)) (ju (aa 0) (ah 24 c #[aa 1,aa 0]))])))]
def dC (c:Call):GS:=#v[aD (aA .tuple #[cz false 1 (.one 0) (dA (aa 1)) (cy (iw (aa 1) (aa 0)))])]
def eF (c:Call):GS:=#v[aw (.one 2) (aS (bt false #[bu #[gI 3,gI 1,gI 6],bu #[gI 2,gI 2,gI 3],bu #[gI 3,gI 1,gI 4],bu #[gI 2,gI 2,gI 2],bu #[gI 4,gI 1,gI 2]]) (ai false .mod (aa 1) (gI 5))),aD (ah 34 c #[aa 0,aS (aa 2) (gI 0),aS (aa 2) (gI 1),aS (aa 2) (gI 2)])]
def gj (c:Call):GS:=#v[aw (.one 3) (aA .len #[aa 1]),aw (.one 4) (bt true bx),dz (.two 5 [6,7]) (ir (aa 0)) #v[aw (.one 8) (fZ (aq (aH .le (aa 6) (aa 3))) (aS (aa 1) (ai false .sub (aa 3) (aa 6))) (bt false bx)),dz (.one 9) (dA (aa 8)) #v[aw (.one 10) (ah 152 c #[aa 7,aa 9]),aL (aq (lV true (aa 10) (aa 2))) #v[kj (aa 2) (aa 10) (bu #[aa 3,ai true .add (aS (iw (aa 2) (aa 9)) (gI 1)) (bt false #[aa 5])]),fC (aa 4) (aa 10),aL (aq (aH .gt (mJ (aa 2)) (gI 255))) #v[di 8 #[mZ "rows have more than " " behaviours" (gI 255)]] aE] aE]],aD (aa 4)]
def i6 (c:Call):GS:=#v[cv (.one 2) (bf 151 c #[aa 0]),aw (.one 3) (aA .tuple #[ah 15 c #[aa 0]]),aw (.one 4) (vQ 78 (aa 3) (bu #[gI 0,bt true bx])),aw (.one 5) (bt true #[bt false #[aa 3]]),gU (d8 (aq (p7 (bN false true false (aa 5) (fh (gI 3)) gN))) (ff (aq (aH .isN (aa 1) gN)) (aq (aH .le (aA .len #[aa 5]) (aa 1))))) #v[mx (aa 5) (bf 165 c #[aa 2,aa 5,aa 4])],aD (aa 4)]
def eQ (c:Call):GS:=#v[mw (hV da (hV ub (bf 166 c #[dg "machine" (aa 0),gN]) (cx 40 132 c (aa 0) bx)) (gI 0))]
def cE (c:Call):GS:=#v[fB (bf 18 c #[aa 0,aa 1]),aL (aq (aH .gt (aA .len #[aa 1]) (gI 12))) #v[di 4 #[mZ "a row that is mended has at most " " deeds" (gI 12)]] aE,aL (b3 (aq (ah 0 c #[aa 2,gI 1,gI 6]))) #v[di 7 #[mZ "windows are at most 1 to " " deeds long" (gI 6)]] aE]
def chF (c:Call):GS:=#v[aw (.tup [7,8]) (aS (aa 0) (aa 6)),pJ 4 (aa 7),aw (.one 2) (ah 152 c #[aa 8,aa 2]),aw (.tup [9,10]) (iw (aa 1) (aa 2)),aL (aq (aH .lt (aa 9) (aa 4))) #v[aD (bu #[aa 5,aA (.list false) #[aa 10]])] aE]
def cX (c:Call):GS:=#v[aw (.one 4) (gI 0),dz (.tup [5,6]) (tY (aa 3)) (chF c),aD gN]
def nsF (c:Call):GS:=#v[aw (.one 7) (ah 197 c #[aa 4,aa 1,aa 5,bN false true true (aa 2) (aa 6) (ai false .add (aa 6) (aa 3))]),aL (aq (aH .notN (aa 7) gN)) #v[aw (.tup [8,9]) (aa 7),aD (bu #[aa 6,aa 8,aa 9])] aE]
def fu (c:Call):GS:=#v[cv (.one 4) (bf 151 c #[aa 0]),aw (.one 5) (aA .tuple #[ah 15 c #[aa 0]]),dz (.one 6) (eI (aA .len #[aa 2])) (nsF c),aD gN]
def MP (c:Call):GS:=#v[aw (.tup [7,8,9]) (aa 6),sL (aa 4) (aa 7) (ai false .add (aa 7) (aa 8)) (aa 9),fC (aa 5) (aa 6),cv (.one 6) (bf 198 c #[aa 0,aa 3,aa 4,aa 2])]
def i7 (c:Call):GS:=#v[fB (bf 196 c #[aa 0,aa 1,aa 2]),cv (.one 3) (bf 166 c #[aa 0,gN]),aw (.one 4) (aA (.list true) #[aa 1]),aw (.one 5) (bt true bx),cv (.one 6) (bf 198 c #[aa 0,aa 3,aa 4,aa 2]),gU (aq (aH .notN (aa 6) gN)) (MP c),aD (bu #[aa 4,aa 5])]
def c5 (c:Call):GS:=#v[aD (fE (f5 .list (aa 1)) (aA .all #[cz false 1 (.one 0) (dA (aa 1)) (cy (ah 16 c #[aa 1,aa 0]))]))]
def dO (c:Call):GS:=#v[aw (.tup [4,5,6]) (aa 3),aL (ff (b3 (aq (ah 0 c #[aa 5,gI 1,aa 2]))) (b3 (aq (ah 0 c #[aa 4,gI 0,ai false .sub (aA .len #[aa 1]) (aa 5)])))) #v[aD gN] aE,aL (b3 (aq (ah 200 c #[aa 0,aa 6]))) #v[aD gN] aE,aw (.one 7) (ai false .add (aa 4) (aa 5)),aw (.one 8) (bN false true true (aa 1) (aa 4) (aa 7)),aL (aq (aH .ge (ah 47 c #[aa 0,aa 6]) (ah 47 c #[aa 0,aa 8]))) #v[aD gN] aE,aL (aq (aH .ne (ah 46 c #[aa 0,aa 6]) (ah 46 c #[aa 0,aa 8]))) #v[aD gN] aE,aD (ai false .add (ai false .add (bN false false true (aa 1) gN (aa 4)) (aa 6)) (bN false true false (aa 1) (aa 7) gN))]
def hG (c:Call):GS:=#v[fB (bf 196 c #[aa 0,aa 1,aa 2]),aw (.one 4) (aA (.list false) #[aa 1]),dz (.one 5) (dA (aa 3)) #v[aw (.one 4) (ah 201 c #[aa 0,aa 4,aa 2,aa 5]),aL (aq (aH .isN (aa 4) gN)) #v[aD gN] aE],aD (aa 4)]
def rN (c:Call):GS:=#v[HK (ah 128 c #[gI 0])]
def qm (c:Call):GS:=#v[HK (ah 128 c #[gI 1])]
def dP (c:Call):GS:=#v[aw (.one 3) gN,lC #v[cv (.one 3) (bf 199 c #[aa 0,aA (.list false) #[aa 1],aa 2])] 8 8 #v[aw (.one 3) gN],aD (aa 3)]
def eC (c:Call):GS:=#v[aw (.one 3) (gI 0),dz (.tup [4,5,6]) (dA (aa 2)) #v[aw (.one 3) (ai false .sub (ai false .add (aa 3) (ah 19 c #[aa 0,bN false true true (aa 1) (aa 4) (ai false .add (aa 4) (aa 5))])) (ah 19 c #[aa 0,aA (.list false) #[aa 6]])),aw (.one 1) (ai false .add (ai false .add (bN false false true (aa 1) gN (aa 4)) (aa 6)) (bN false true false (aa 1) (ai false .add (aa 4) (aa 5)) gN))],aD (aa 3)]
def wt (c:Call):GS:=#v[aL (d8 (aq (aH .le (aA .len #[aa 7]) (aa 3))) (aq (aH .ne (aa 9) (ah 19 c #[aa 4,aA (.list false) #[aa 7]])))) rF aE,aL (d8 (aq (aH .le (aA .len #[aa 7]) (gI 12))) (aq (aH .ne (ah 205 c #[aa 4,aa 7,aa 3]) (bu #[aa 7,bt false bx])))) rF aE]
def wu (c:Call):GS:=aT (aw (.one 9) (cx 40 190 c (jt 40 129 c #[aa 4,aA (.list false) #[aa 5]]) bx)) (aT (aL (ff (aq (aH .ne (aa 9) (cx 40 190 c (jt 40 129 c #[aa 4,aA (.list false) #[aa 7]]) bx))) (aq (aH .gt (aa 9) (ah 19 c #[aa 4,aA (.list false) #[aa 7]])))) rF aE) (wt c))
def wx (c:Call):GS:=aT (aL (aq (aH .notN (ah 48 c #[aa 4,aA (.list false) #[aa 5],aA (.list false) #[aa 7]]) gN)) rF aE) (aT (aL (aq (aH .ne (ah 27 c #[aa 4,aA (.list false) #[aa 7]]) (ah 27 c #[aa 4,aA (.list false) #[aa 5]]))) rF aE) (aT (aL (aq (aH .ne (ai false .sub (ah 19 c #[aa 4,aA (.list false) #[aa 5]]) (ah 19 c #[aa 4,aA (.list false) #[aa 7]])) (ah 206 c #[aa 4,aA (.list false) #[aa 5],aa 8]))) rF aE) (wu c)))
def sf (c:Call):GS:=aT (aw (.one 3) (ai false .add (gI 1) (ah 31 c #[aa 1,gI 6]))) (aT (aw (.one 4) (ah 160 c #[ah 30 c #[aa 1],aa 2])) (aT (aw (.one 5) (ah 35 c #[aa 1,aa 4,gI 12])) (aT (aw (.one 6) (ah 205 c #[aa 4,aa 5,aa 3])) (aL (aq (aH .isN (aa 6) gN)) aE (aT (aw (.tup [7,8]) (aa 6)) (aT (aL (aq (aH .ne (ah 202 c #[aa 4,aA (.list false) #[aa 5],aa 3,aA (.list false) #[aa 8]]) (aa 7))) rF aE) (aL (aq (aH .gt (aA .len #[aa 7]) (gI 40))) aE (wx c))))))))
def mS (c:Call):GS:=#v[aw (.one 1) (ah 29 c #[aa 0]),dz (.one 2) (eI (gI 4)) (sf c),aD Js]
@[simp] theorem aV {h j:Type}{r:Res h}{f:h->Mem->Res j}{k:j->Mem->Prop}:ae (r.bind f) k↔ae r λa M=>ae (f a M) k:=by cases r<;>rfl
@[simp] theorem bS {h:Type}{a:h}{k:h->Mem->Prop}:ae (.ok a M) k↔k a M:=Qm
@[simp] theorem Po {h:Type}{k:h->Mem->Prop}:ae (.bad:Res h) k↔False:=Qm
@[simp] theorem fV {h:Type}{M:Mem}{o:Option h}{k:h->Mem->Prop}:ae (bL M o) k↔∃a,o=some a/\k a M:=by cases o<;>simp[bL]
def ig {j:Type}{r:Res j}{k:j->Mem->Prop}:ae r k↔∃a M,r=.ok a M/\k a M:=by
 cases r with
 |ok a M=>exact{λh=>⟨a,M,rfl,h⟩,λ⟨_,_,e,h⟩=>by cases e;exact h}
 |err=>simp[ae]
 |bad=>simp[ae]
def Gx (j:aj 64 (view M x)=true)(z:aj 64 (view M y)=true)(h:bW (view M x) (view M y)=v):bB .eq x y M=some v:=by
 have e:m7 (view M x) (view M y)=some v:=by unfold m7;rw[j,z,h];simp
 show lh M x y=_;unfold lh;rw[e]
def mO (j:aj 64 (view M x)=true)(z:aj 64 (view M y)=true)(h:bW (view M x) (view M y)=v):bB .ne x y M=some (!v):=by
 show(bB .eq x y M).map (!·)=_;rw[Gx j z h];rfl
section
variable{Z:Env}{M:Mem}{a b d lo hi:GE}{s:GA}{t u:GT}{k:D->Mem->Prop}{c:Call}
@[simp] theorem bp {i:Nat}:ae (aa i Z M) k↔∃d,Z[i]?.getD none=some d/\k d M:=by simp[aa]
@[simp] theorem fN {d:D}:ae (gC d Z M) k↔k d M:=Qm
@[simp] theorem jw {m:Bool}{o:rB}:ae (ai m o a b Z M) k↔ae (a Z M) λx M=>ae (b Z M) λy M=>ae (gg m o x y M) k:=by simp[ai]
@[simp] theorem eJ {o:jC}:ae (aH o a b Z M) k↔ae (a Z M) λx M=>ae (b Z M) λy M=>∃v,bB o x y M=some v/\k (.bl v) M:=by simp[aH]
@[simp] theorem P6 {o h:jC}:ae (tZ o h a b d Z M) k↔ae (a Z M) λx M=>ae (b Z M) λy M=>∃v,bB o x y M=some v/\if v=true then ae (d Z M) λz M=>∃v,bB h y z M=some v/\k (.bl v) M else k (.bl false) M:=by
 simp only[tZ,aV,fV];refine iff_of_eq ?_
 congr 1;funext x M;congr 1;funext y M;refine propext (exists_congr λv=>and_congr_right λ_=>?_)
 cases v<;>simp
@[simp] theorem xo:ae (fh a Z M) k↔ae (a Z M) λx M=>∃i,x=.int i/\k (.int (-i)) M:=by
 simp only[fh,aV];refine iff_of_eq ?_;congr 1;funext x M;cases x<;>simp
set_option tactic.hygienic true in
@[simp] theorem LO:ae (fE a b Z M) k↔ae (a Z M) λx M=>∃v,x=.bl v/\if v=true then ae (b Z M) k else k (.bl false) M:=by
 simp only[fE,aV];refine iff_of_eq ?_;congr 1;funext x M;cases x<;>simp;rename_i v;cases v<;>simp
@[simp] theorem LN:ae (fZ t a b Z M) k↔ae (t Z M) λv M=>if v=true then ae (a Z M) k else ae (b Z M) k:=by
 simp only[fZ,aV];refine iff_of_eq ?_;congr 1;funext v M;cases v<;>simp
@[simp] theorem rY:ae (aS a b Z M) k↔ae (a Z M) λx M=>ae (b Z M) λy M=>∃d,da x y M=some d/\k d M:=by simp[aS]
@[simp] theorem f7 {m hl hh:Bool}:ae (bN m hl hh a lo hi Z M) k↔ae (a Z M) λx M=>ae (lo Z M) λl M=>ae (hi Z M) λh M=>d4 hl l=true/\d4 hh h=true/\ae (cQ m x l h M) k:=by
 simp only[bN,aV];refine iff_of_eq ?_
 congr 1;funext x M;congr 1;funext l M;congr 1;funext h M
 cases d4 hl l<;>cases d4 hh h<;>simp
@[simp] theorem cJ {k:List D->Mem->Prop}:ae (bx Z M) k↔k [] M:=Qm
@[simp] theorem bO {k:List D->Mem->Prop}:ae (b7 a s Z M) k↔ae (a Z M) λx M=>ae (s Z M) λxs M=>k (x::xs) M:=by simp[b7]
@[simp] theorem e9:ae (bu s Z M) k↔ae (s Z M) λxs M=>xs.length<=sz/\k (.tup xs) M:=by
 simp only[bu,aV];refine iff_of_eq ?_;congr 1;funext xs M;unfold kv;split<;>simp[*]
def sZ {m:Bool}{xs:List D}:ae (a7 m xs M) k↔xs.length<=sz/\if m=true then k (.cell M.length) (M++[xs]) else k (.lst xs) M:=by
 unfold a7;cases m<;>split<;>simp[*]
@[simp] theorem bT {xs:List D}:ae (a7 false xs M) k↔xs.length<=sz/\k (.lst xs) M:=by simp[sZ]
@[simp] theorem pS {xs:List D}:ae (a7 true xs M) k↔xs.length<=sz/\k (.cell M.length) (M++[xs]):=by simp[sZ]
@[simp] theorem DL {m:Bool}:ae (bt m s Z M) k↔ae (s Z M) λxs M=>ae (a7 m xs M) k:=by simp[bt]
@[simp] theorem zR {f:Nat}:ae (ah f c s Z M) k↔ae (s Z M) λds M=>ae (c f ds M) k:=by simp[ah]
@[simp] theorem F4 {i:Nat}:ae (lW i c s Z M) k↔∃f,Z[i]?.getD none=some (.fn f)/\ae (s Z M) λds M=>ae (c f ds M) k:=by
 unfold lW;cases e:Z[i]?.getD none with
 |none=>simp
 |some d=>cases d<;>simp
@[simp] theorem dH {f:wh}:ae (aA f s Z M) k↔ae (s Z M) λds M=>ae (ee f ds M) k:=by simp[aA]
@[simp] theorem JF {t:Ty}:ae (f5 t a Z M) k↔ae (a Z M) λx M=>∃v,fY t x=some v/\k (.bl v) M:=by simp[f5]
@[simp] theorem JG {fs:List (Str×Nat)}:ae (kD fs a Z M) k↔ae (a Z M) λx M=>∃y f,x=.str y/\fs.lookup y=some f/\k (.fn f) M:=by
 simp only[kD,aV];refine iff_of_eq ?_;congr 1;funext x M;cases x<;>simp;exact{λ⟨_,⟨f,h,e⟩,q⟩=>{f,h,e ▸ q},λ⟨f,h,q⟩=>{_,⟨f,h,rfl⟩,q}}
@[simp] theorem PQ {fs:List (Str×Nat)}:ae (iu fs a Z M) k↔ae (a Z M) λx M=>∃y,x=.str y/\k (.bl (!(fs.lookup y).isSome)) M:=by
 simp only[iu,aV];refine iff_of_eq ?_;congr 1;funext x M;cases x<;>simp
set_option tactic.hygienic true in
@[simp] theorem F1 {m:Bool}:ae (lU m a Z M) k↔ae (a Z M) λx M=>∃n,x=.int n/\(-(2^62)<=n/\n<2^20)/\ae (a7 m ((List.range n.toNat).map λ(k:Nat)=>D.int (k:Int)) M) k:=by
 simp only[lU,aV];refine iff_of_eq ?_;congr 1;funext x M;cases x<;>simp;rename_i n;split<;>simp[*]
variable{kb:Bool->Mem->Prop}
@[simp] theorem fQ:ae (aq a Z M) kb↔ae (a Z M) λx M=>∃v,jE M x=some v/\kb v M:=by simp[aq]
@[simp] theorem KP:ae (d8 t u Z M) kb↔ae (t Z M) λv M=>if v=true then ae (u Z M) kb else kb false M:=by
 simp only[d8,aV];refine iff_of_eq ?_;congr 1;funext v M;cases v<;>simp
@[simp] theorem Nj:ae (ff t u Z M) kb↔ae (t Z M) λv M=>if v=true then kb true M else ae (u Z M) kb:=by
 simp only[ff,aV];refine iff_of_eq ?_;congr 1;funext v M;cases v<;>simp
@[simp] theorem P4:ae (b3 t Z M) kb↔ae (t Z M) λv M=>kb (!v) M:=by simp[b3]
variable{kf:Fl->Mem->Prop}{sa sb:GS}
def ic (b:GS)(k:Fl->Mem->Prop):Fl->Mem->Prop
 |.next Z,M=>ae (b Z M) k
 |.ret d,M=>k (.ret d) M
 |.exc x Z,M=>k (.exc x Z) M
@[simp] theorem Ni {b:GS}{x:D}:ic b kf (.exc x Z) M↔kf (.exc x Z) M:=Qm
@[simp] theorem bC {b:GS}:ic b kf (.next Z) M↔ae (b Z M) kf:=Qm
@[simp] theorem Nh {b:GS}{d:D}:ic b kf (.ret d) M↔kf (.ret d) M:=Qm
@[simp] theorem aM:ae (aT sa sb Z M) kf↔ae (sa Z M) (ic sb kf):=by
 simp only[aT,aV];refine iff_of_eq ?_;congr 1;funext fl M;cases fl<;>rfl
@[simp] theorem lB:ae (aE Z M) kf↔kf (.next Z) M:=Qm
@[simp] theorem oj {i:Nat}:ae (aw (.one i) a Z M) kf↔ae (a Z M) λx M=>kf (.next (Z.set i (some x))) M:=by simp[aw,bV]
@[simp] theorem Pc {l:List Nat}:ae (aw (.tup l) a Z M) kf↔ae (a Z M) λx M=>∃ds ρ1,x=.tup ds/\cg l ds Z=some ρ1/\kf (.next ρ1) M:=by
 simp only[aw,aV,fV,bS];refine iff_of_eq ?_;congr 1;funext x M;cases x<;>simp[bV]
@[simp] theorem HA:ae (fA a b d Z M) kf↔ae (d Z M) λz M=>ae (a Z M) λx M=>ae (b Z M) λy M=>∃j n ds i,x=.cell j/\y=.int n/\M[j]?=some ds/\b6 ds.length n=some i/\kf (.next Z) (M.set j (ds.set i z)):=by
 simp only[fA,aV];refine iff_of_eq ?_
 congr 1;funext z M;congr 1;funext x M;congr 1;funext y M
 cases x with
 | cell j =>
   cases y with
   | int n =>
     cases e:M[j]? with
     |none=>simp[e]
     | some ds =>
       cases e2:b6 ds.length n with
       |none=>simp[e,e2]
       |some i=>simp[e,e2]
   |_=>simp
 |_=>simp
set_option tactic.hygienic true in
@[simp] theorem HF:ae (fC a d Z M) kf↔ae (a Z M) λx M=>ae (d Z M) λz M=>∃j ds,x=.cell j/\M[j]?=some ds/\ds.length<sz/\kf (.next Z) (M.set j (ds++[z])):=by
 simp only[fC,aV];refine iff_of_eq ?_
 congr 1;funext x M;congr 1;funext z M
 cases x<;>simp;rename_i j;cases e:M[j]? with
 |none=>simp
 |some ds=>by_cases h:ds.length<sz<;>simp[h]
@[simp] theorem eL:ae (aD a Z M) kf↔ae (a Z M) λx M=>kf (.ret x) M:=by simp[aD]
@[simp] theorem OF:ae (CW Z M) kf↔kf (.ret .non) M:=Qm
@[simp] theorem OG:ae (wG Z M) kf↔kf (.next Z) M:=Qm
@[simp] theorem Pb:ae (wH Z M) kf↔False:=Qm
@[simp] theorem jO:ae (aL t sa sb Z M) kf↔ae (t Z M) λv M=>if v=true then ae (sa Z M) kf else ae (sb Z M) kf:=by
 simp only[aL,aV];refine iff_of_eq ?_;congr 1;funext v M;cases v<;>simp
variable{kw:Walk->Mem->Prop}
set_option tactic.hygienic true in
@[simp] theorem gP:ae (eI a Z M) kw↔ae (a Z M) λx M=>∃n,x=.int n/\(-(2^62)<=n/\n<2^62)/\kw (λ_=>some ((List.range n.toNat).map λ(k:Nat)=>D.int (k:Int))) M:=by
 simp only[eI,aV];refine iff_of_eq ?_;congr 1;funext x M;cases x<;>simp;rename_i n;split<;>simp[*]
@[simp] theorem mq:ae (dA a Z M) kw↔ae (a Z M) λx M=>dG x=true/\kw (λM=>bR M x) M:=by
 simp only[dA,aV];refine iff_of_eq ?_;congr 1;funext x M;cases x<;>simp[dG]<;>rfl
@[simp] theorem G0:ae (ir a Z M) kw↔ae (a Z M) λx M=>dG x=true/\kw (λM=>(bR M x).map (dN 0)) M:=by
 simp only[ir,aV];refine iff_of_eq ?_;congr 1;funext x M;split<;>simp[*]
def t7 (k:D->Mem->Prop):Fl->Mem->Prop
 |.ret d,M=>k d M
 |.next _,M=>k .non M
 |.exc _ _,_=>False
@[simp] theorem OO {d:D}:t7 k (.ret d) M↔k d M:=Qm
@[simp] theorem Of:t7 k (.next Z) M↔k .non M:=Qm
def aF {d:Df}{ds:List D}(e:P f=some d)(hl:ds.length=d.params)(h:ae (d.body (ag P n) (ds.map some++List.replicate (d.slots-ds.length) none) M) (t7 k)):ae (ag P (n+1) f ds M) k:=by
 show ae (match P f with|none=>Res.bad|some d=>fD (ag P n) d ds M) k
 rw[e];show ae (fD (ag P n) d ds M) k;unfold fD;rw[if_pos hl];revert h;cases d.body (ag P n) (ds.map some++List.replicate (d.slots-ds.length) none) M with
 |ok fl M=>cases fl<;>exact id
 |err=>exact id
 |bad=>exact id
@[simp] theorem oC {h:Type}{a:h}{k:h->Mem->Prop}{j:D->Mem->Prop}:dW (.ok a M) k j↔k a M:=Qm
@[simp] theorem OJ {h:Type}{x:D}{k:h->Mem->Prop}:dW (.err x M:Res h) k kx↔kx x M:=Qm
def xl (k h:D->Mem->Prop):Fl->Mem->Prop
 |.ret d,M=>k d M
 |.next _,M=>k .non M
 |.exc x _,M=>h x M
def kJ {d:Df}{j:D->Mem->Prop}(e:P f=some d)(hl:ds.length=d.params)(h:ae (d.body (ag P n) (ds.map some++List.replicate (d.slots-ds.length) none) M) (xl k j)):dW (ag P (n+1) f ds M) k j:=by
 show dW (match P f with|none=>Res.bad|some d=>fD (ag P n) d ds M) k j
 rw[e];show dW (fD (ag P n) d ds M) k j;unfold fD;rw[if_pos hl];revert h;cases d.body (ag P n) (ds.map some++List.replicate (d.slots-ds.length) none) M with
 |ok fl M=>cases fl<;>exact id
 |err=>exact id
 |bad=>exact id
@[simp] theorem PM {d:D}{h:D->Mem->Prop}:xl k h (.ret d) M↔k d M:=Qm
@[simp] theorem ON {h:D->Mem->Prop}:xl k h (.next Z) M↔k .non M:=Qm
@[simp] theorem PN:xl k kx (.exc x Z) M↔kx x M:=Qm
@[simp] theorem OB {f:Nat}:dW (bf f c s Z M) k kx↔ae (s Z M) λds M=>dW (c f ds M) k kx:=by
 unfold bf;cases s Z M<;>rfl
@[simp] theorem sJ:ae (fB a Z M) kf↔dW (a Z M) (λ_ M=>kf (.next Z) M) (λx M=>kf (.exc x Z) M):=by
 unfold fB;cases a Z M<;>rfl
@[simp] theorem va {i:Nat}:ae (cv (.one i) a Z M) kf↔dW (a Z M) (λx M=>kf (.next (Z.set i (some x))) M) (λx M=>kf (.exc x Z) M):=by
 unfold cv;cases a Z M<;>rfl
@[simp] theorem E7:ae (mw a Z M) kf↔dW (a Z M) (λx M=>kf (.ret x) M) (λx M=>kf (.exc x Z) M):=by
 unfold mw;cases a Z M<;>rfl
@[simp] theorem Bd {i:Nat}:ae (di i s Z M) kf↔ae (s Z M) λds M=>ds.length<=sz/\kf (.exc (.exc i none) Z) M:=by
 unfold di;cases s Z M with
 |ok ds j=>by_cases h:ds.length<=sz<;>simp[h]
 |err=>exact Qm
 |bad=>exact Qm
def Kd (k1 k2:Nat)(h:GS)(kf:Fl->Mem->Prop):Fl->Mem->Prop
 |.exc x Z,M=>∃c p,x=.exc c p/\(c=k1\/c=k2)/\ae (h Z M) (λfl M=>match fl with|.exc _ _=>False|fl=>kf fl M)
 |fl,M=>kf fl M
set_option tactic.hygienic true in
@[simp] theorem Be {k1 k2:Nat}{h:GS}:ae (lC sa k1 k2 h Z M) kf↔ae (sa Z M) (Kd k1 k2 h kf):=by
 simp only[lC,aV];refine iff_of_eq ?_;congr 1;funext fl M;cases fl with
 | exc x Z =>
   cases x with
   | exc c p =>
     by_cases j:c=k1\/c=k2
     ·have e:lr k1 k2 h (.exc (.exc c p) Z) M=(h Z M).bind λfl M=>match fl with|.exc _ _=>.bad|fl=>.ok fl M:=if_pos j
      rw[e];simp only[aV];refine propext {λz=>{c,p,rfl,j,aQ z λfl M q=>?_},λ⟨_,_,e,_,z⟩=>?_}
      ·cases fl with
       |exc=>exact q.elim
       |next=>exact q
       |ret=>exact q
      ·refine aQ z λfl M q=>?_;cases fl with
       |exc=>exact q.elim
       |next=>exact q
       |ret=>exact q
     ·have e:lr k1 k2 h (.exc (.exc c p) Z) M=.bad:=if_neg j;rw[e];exact propext {λz=>z.elim,λ⟨_,_,e,z,_⟩=>by cases e;exact absurd z j}
   |_=>exact propext {λz=>z.elim,λ⟨_,_,e,_⟩=>by cases e}
 |next Z=>rfl
 |ret d=>rfl
def fz {v:Type}{f:v->D->Mem->Res v}{w:Walk}{ds:List D}{a:v}{k:v->Mem->Prop}(I:Nat->v->Mem->Prop)(E:∀i a M,I i a M->w M=some ds)(B:I 0 a M)
 (hs:∀i d a M,ds[i]?=some d->I i a M->ae (f a d M) (I (i+1))) (hk:∀a M,I ds.length a M->k a M):ae (c6 f w a M) k:=by
 have z:∀(m i:Nat) (a:v) (M:Mem),ds.length-i<m->i<=ds.length->I i a M->ae (fx f w m i a M) k:=by
  intro m;induction m with
  |zero=>intro i a M h;exact absurd h (Rh _)
  | succ m L =>
    intro i a M h hi y;show ae (match w M with|none=>Res.bad|some ds=>match ds[i]? with|none=>Res.ok a M|some d=>(f a d M).bind (fx f w m (i+1))) k
    rw[E i a M y];dsimp only;by_cases j:i<ds.length
    ·rw[Pd j];simp only[aV];exact aQ (hs i ds[i] a M (Pd j) y) λH F J=>L (i+1) H F `a j J
    ·have e:i=ds.length:=`a
     subst e;rw[List.getElem?_eq_none (OZ _)];exact hk a M y
 unfold c6;rw[E 0 a M B];exact z _ 0 a M `s (QO _) B
def fL {t:fg}{w:Walk}{v:GS}{ds:List D}(I:Nat->Env->Mem->Prop)(z:∀i Z M,I i Z M->w M=some ds)(y:I 0 Z M)
 (hs:∀i d Z M,ds[i]?=some d->I i Z M->∃ρ1,bV t d Z=some ρ1/\ae (v ρ1 M) λfl M=>∃ρ',fl=.next ρ'/\I (i+1) ρ' M) (hk:∀Z M,I ds.length Z M->kf (.next Z) M):ae (c6 (fw t v) w (.next Z) M) kf:=by
 refine fz (λi fl M=>∃Z,fl=.next Z/\I i Z M) (λi fl M ⟨Z,_,h⟩=>z i Z M h) ⟨Z,rfl,y⟩ ?_ ?_
 ·rintro i d fl M hd ⟨Z,rfl,j⟩;obtain⟨ρ1,e,h⟩:=hs i d Z M hd j;simp only[fw,aV,fV,e];exact⟨ρ1,rfl,h⟩
 ·rintro fl M ⟨Z,rfl,j⟩;exact hk Z M j
@[simp] theorem gR {j:fg}{w:GW}{h:GS}:ae (dz j w h Z M) kf↔ae (w Z M) λw M=>ae (c6 (fw j h) w (.next Z) M) kf:=by simp[dz]
@[simp] theorem g6 {m:Bool}{n:Nat}{h:fg}{w:GW}{g:GB}:ae (cz m n h w g Z M) k↔ae (w Z M) λw M=>ae (c6 (dr h g (List.replicate n none++Z)) w [] M) λacc M=>ae (a7 m acc M) k:=by simp[cz]
variable{kl:List D->Mem->Prop}
@[simp] theorem DZ {ge:GE}{acc:List D}:ae (cy ge Z acc M) kl↔ae (ge Z M) λx M=>acc.length<sz/\kl (acc++[x]) M:=by
 simp only[cy,aV];refine iff_of_eq ?_;congr 1;funext x M;split<;>simp[*]
def comp_map {v:fg}{w:Walk}{ge:GE}{ds:List D}{j:Env}(I:Nat->List D->Mem->Prop)(hz:ds.length<=sz)(B:∀i acc M,I i acc M->w M=some ds)(y:I 0 [] M)
 (hs:∀i d acc M,ds[i]?=some d->acc.length=i->I i acc M->∃ρ1,bV v d j=some ρ1/\ae (ge ρ1 M) λx M=>I (i+1) (acc++[x]) M) (hk:∀acc M,acc.length=ds.length->I ds.length acc M->kl acc M) :
 ae (c6 (dr v (cy ge) j) w [] M) kl:=by
 refine fz (λi acc M=>acc.length=i/\I i acc M) (λi acc M h=>B i acc M h.2) ⟨rfl,y⟩ ?_ (λacc M h=>hk acc M h.1 h.2);rintro i d acc M hd ⟨hl,z⟩;obtain⟨ρ1,e,h⟩:=hs i d acc M hd hl z;have hi:i<ds.length:=(OV.mp hd).1;simp only[dr,aV,fV,e,DZ];exact{ρ1,rfl,aQ h λx M h=>{`a,by simp[hl],h}}
end
def dR {M:Mem}(j:t Z M=.ok false M)(h:ae (rest Z M) k):ae (aT (aL t A aE) rest Z M) k:=by
 simp only[aM,jO];rw[j];exact h
def gz {v:D}(he:e Z M=.ok v M)(h:k (.ret v) M):ae (#v[aD e] Z M) k:=by
 simp only[aM,eL];rw[he];exact h
structure HasB0 (P:Nat->Option Df):Prop where
 is_between:P 0=some {3,3,i9}
 is_word:P 1=some {2,2,lZ}
 is_place:P 2=some {2,2,kW}
 is_cost:P 3=some {1,1,l9}
 is_tuple_of:P 4=some {2,2,h9}
 is_table:P 5=some {2,2,kU}
 is_double_table:P 6=some {2,2,fi}
 is_turn:P 7=some {3,6,l4}
 is_join:P 8=some {3,7,l6}
 is_move:P 9=some {3,6,l5}
 is_put:P 10=some {3,6,nX}
 is_deed:P 11=some {3,5,l7}
 is_machine:P 12=some {1,4,i8}
 need_machine:P 13=some {1,1,gE}
structure HasM0 (P:Nat->Option Df):Prop extends HasB0 P where
 is_deed_number:P 16=some {2,2,fG}
 need_numbers:P 17=some {2,4,gD}
 need_row:P 18=some {2,2,kS}
structure HasM (P:Nat->Option Df):Prop extends HasM0 P where
 turned:P 20=some {2,6,kM}
 joined:P 21=some {2,7,kT}
 moved:P 22=some {2,6,mR}
 put_in:P 23=some {2,6,kQ}
 done:P 24=some {2,4,pf}
 all_standing:P 25=some {3,5,gF}
structure HasP0 (P:Nat->Option Df):Prop where
 law_spread:P 28=some {2,6,lj}
 law_open:P 29=some {1,4,jH}
 law_anew:P 30=some {1,1,jI}
 law_take:P 31=some {2,5,m9}
structure HasP (P:Nat->Option Df):Prop extends HasP0 P where
 law_tab:P 32=some {2,6,iy}
 law_deed:P 33=some {3,7,gO}
 law_machine:P 34=some {4,8,fb}
instance coeHasB0 {P:Nat->Option Df}:Coe (HasM0 P) (HasB0 P):=⟨HasM0.toHasB0⟩
instance coeHasBM {P:Nat->Option Df}:Coe (HasM P) (HasB0 P):={λh=>h.toHasM0.toHasB0}
structure jB (P:Nat->Option Df):Prop where
 turned:P 20=some {2,6,kM}
 joined:P 21=some {2,7,kT}
 moved:P 22=some {2,6,mR}
 put_in:P 23=some {2,6,kQ}
 done:P 24=some {2,4,pf}
def HasM.r {P:Nat->Option Df}(h:HasM P):jB P:=⟨h.turned,h.joined,h.moved,h.put_in,h.done⟩
instance coeHasR0 {P:Nat->Option Df}:Coe (HasM P) (jB P):=⟨HasM.r⟩
instance coeHasM {P:Nat->Option Df}:Coe (HasM P) (HasM0 P):=⟨HasM.toHasM0⟩
instance coeHasP {P:Nat->Option Df}:Coe (HasP P) (HasP0 P):=⟨HasP.toHasP0⟩
@[simp] theorem P5 {d:Option D}{r:Env}:(d::r)[0]?.getD none=d:=rfl
section
variable{M:Mem}{k:D->Mem->Prop}
def oF {j:Type}{c:Prop}[Decidable c]{r:Res j}{k:j->Mem->Prop}:ae (if c then r else .bad) k↔c/\ae r k:=by split<;>simp[*]
@[simp] theorem uI {m:Bool}{i j:Int}:ae (gg m .add (.int i) (.int j) M) k↔k (.int (i+j)) M:=Qm
@[simp] theorem Hq {m:Bool}{i j:Int}:ae (gg m .sub (.int i) (.int j) M) k↔k (.int (i-j)) M:=Qm
@[simp] theorem Px {m:Bool}{i j:Int}:ae (gg m .mod (.int i) (.int j) M) k↔0<j/\k (.int (i % j)) M:=oF
@[simp] theorem Aj {m:Bool}{x y:List D}:ae (gg m .add (.tup x) (.tup y) M) k↔(x++y).length<=sz/\k (.tup (x++y)) M:=by
 show ae (kv _ _) k↔_;unfold kv;exact oF
@[simp] theorem PU {m:Bool}{x y:List D}:ae (gg m .add (.lst x) (.lst y) M) k↔ae (a7 m (x++y) M) k:=Qm
@[simp] theorem OQ {i j:Int}:bB .lt (.int i) (.int j) M=some (decide (i<j)):=rfl
@[simp] theorem OR {i j:Int}:bB .le (.int i) (.int j) M=some (decide (i<=j)):=rfl
@[simp] theorem OS {i j:Int}:bB .gt (.int i) (.int j) M=some (decide (j<i)):=rfl
@[simp] theorem OT {i j:Int}:bB .ge (.int i) (.int j) M=some (decide (j<=i)):=rfl
@[simp] theorem P8 {i j:Int}:bB .eq (.int i) (.int j) M=some (i==j):=rfl
@[simp] theorem P7 {i j:Int}:bB .ne (.int i) (.int j) M=some (!(i==j)):=rfl
@[simp] theorem O1 {b:Bool}:jE M (.bl b)=some b:=rfl
@[simp] theorem OC {ds:List D}:jE M (.tup ds)=some (!ds.isEmpty):=rfl
@[simp] theorem OD {ds:List D}:jE M (.lst ds)=some (!ds.isEmpty):=rfl
@[simp] theorem OK {ds:List D}:ae (ee .len [.tup ds] M) k↔k (.int ds.length) M:=Qm
@[simp] theorem OL {ds:List D}:ae (ee .len [.lst ds] M) k↔k (.int ds.length) M:=Qm
@[simp] theorem GI {ds:List D}:ae (ee .all [.lst ds] M) k↔∃bs,boolsOf ds=some bs/\k (.bl (bs.all id)) M:=by
 show ae (match boolsOf ds with|some bs=>_|none=>_) k↔_
 cases boolsOf ds<;>simp
@[simp] theorem OE {ds:List D}:ae (ee .sum [.lst ds] M) k↔∃bs,intsOf ds=some bs/\k (.int bs.sum) M:=by
 show ae (match intsOf ds with|some bs=>_|none=>_) k↔_
 cases intsOf ds<;>simp
@[simp] theorem MA {ds:List D}:ae (ee .tuple [.lst ds] M) k↔k (.tup ds) M:=Qm
@[simp] theorem wq {j:Nat}:ae (ee .tuple [.cell j] M) k↔∃ds,M[j]?=some ds/\k (.tup ds) M:=by
 show ae (match M[j]? with|some xs=>_|none=>_) k↔_
 cases M[j]?<;>simp
@[simp] theorem BD {m:Bool}{ds:List D}:ae (ee (.list m) [.lst ds] M) k↔ae (a7 m ds M) k:=Qm
@[simp] theorem iJ {ds:List D}{i:Int}:da (.tup ds) (.int i) M=(b6 ds.length i).bind λj=>ds[j]?:=rfl
@[simp] theorem OM {ds:List D}{i:Int}:da (.lst ds) (.int i) M=(b6 ds.length i).bind λj=>ds[j]?:=rfl
@[simp] theorem N9 {j:Nat}{i:Int}:da (.cell j) (.int i) M=(M[j]?).bind λds=>(b6 ds.length i).bind λj=>ds[j]?:=rfl
def eM {n i:Nat}(h:i<n):b6 n (i:Int)=some i:=by
 unfold b6;rw[if_pos (Int.natCast_nonneg i),if_pos (by exact_mod_cast h)];rfl
def FU {n:Nat}(h:0<n):b6 n (-1)=some (n-1):=by
 unfold b6;rw[if_neg `a,if_pos `a]
 congr 1;omega
end
def fM {j:Type}{r:Res j}{d:j}{M:Mem}(h:ae r λx M'=>x=d/\M'=M):r=.ok d M:=by
 obtain⟨a,M',e,rfl,rfl⟩:=ig.mp h;exact e
def ak {r:Res D}{d:D}{M:Mem}(h:ae r λx M'=>x=d/\M'=M):r=.ok d M:=by
 obtain⟨a,M',e,rfl,rfl⟩:=ig.mp h;exact e
section
variable{P:Nat->Option Df}(h:HasB0 P){M:Mem}
include h
theorem eW (n:Nat)(t lo hi:Int):ag P (n+1) 0 [.int t,.int lo,.int hi] M=.ok (.bl (decide (lo<=t)&&decide (t<=hi))) M:=by
 refine ak (aF h.is_between rfl ?_);simp[i9,fY];by_cases h1:lo<=t<;>simp[h1]<;>omega
end
def g8 {z:fg}{w:Walk}{ge:GE}{ds:List D}{u:Env}{M:Mem}{y:List D->Mem->Prop}(f:D->D)(hz:ds.length<=sz)(B:w M=some ds)(hs:∀d∈ds,∃ρ1,bV z d u=some ρ1/\ge ρ1 M=.ok (f d) M)(hk:y (ds.map f) M) :
 ae (c6 (dr z (cy ge) u) w [] M) y:=by
 refine comp_map (λi j v=>v=M/\j=(ds.take i).map f) hz (λi j v h=>by rw[h.1];exact B) ⟨rfl,rfl⟩ ?_ ?_
 ·rintro i d j v hd _ ⟨rfl,rfl⟩;obtain⟨ρ1,e1,e2⟩:=hs d (PZ hd);refine{ρ1,e1,?_};rw[e2];refine{rfl,?_};have E:i<ds.length:=(OV.mp hd).1;rw[Qq,hd];simp
 ·rintro j v _ ⟨rfl,rfl⟩;simpa using hk
def oZ {ds:List D}(h:∀d∈ds,d=.bl true):∃bs,boolsOf ds=some bs/\bs.all id=true:=by
 induction ds with
 |nil=>exact{[],rfl,rfl}
 | cons d r j =>
   obtain⟨bs,e,q⟩:=j λd hd=>h d (O6 _ hd);obtain rfl:=h d Pm;exact{true::bs,by simp[boolsOf,e],by simpa using q}
def all_true {w:GW}{ge:GE}{Z:Env}{M:Mem}{k:D->Mem->Prop}{ds:List D}(j:ae (w Z M) λwk M'=>M'=M/\wk M=some ds)(hz:ds.length<=sz)(he:∀d∈ds,ge (some d::Z) M=.ok (.bl true) M)(hk:k (.bl true) M) :
 ae (aA .all #[cz false 1 (.one 0) w (cy ge)] Z M) k:=by
 simp only[dH,bO,g6,cJ];refine aQ j λwk M' ⟨e1,e2⟩=>?_;subst e1;refine g8 (λ_=>.bl true) hz e2 (λd hd=>{some d::Z,rfl,he d hd}) ?_;obtain⟨bs,u,v⟩:=oZ (ds:=ds.map λ_=>D.bl true) `s
 simp only[bT,OY,GI];exact{hz,bs,u,by rw[v];exact hk}
def nZ {u:fg}{ge:GE}{w:Walk}{ds:List D}{j:Env}{M:Mem}(hz:ds.length<=sz)(v:w M=some ds)(he:∀d∈ds,∃ρ1,bV u d j=some ρ1/\ge ρ1 M=.ok (.bl true) M) :
 ae (c6 (dr u (cy ge) j) w [] M) λacc M'=>acc.length<=sz/\∃bs,boolsOf acc=some bs/\¬ false∈bs/\M'=M:=by
 refine g8 (λ_=>.bl true) hz v he ?_;obtain⟨bs,y,B⟩:=oZ (ds:=ds.map λ_=>D.bl true) `s
 refine{by simpa using hz,bs,y,λz=>?_,rfl}
 have:=Pk.mp B false z;cases this
abbrev nD (n:Nat):D:=.int (n:Int)
def av (l:List Nat):D:=.tup (l.map nD)
inductive aW where
 |turn (at_:Nat) (tab:List Nat) (cost:Nat)
 |join (at_ other:Nat) (tab:List (List Nat)) (cost:Nat)
 |move (at_ other cost:Nat)
 |put (at_ word cost:Nat)
def aW.d:aW->D
 |.turn a t c=>.tup [.str "turn",nD a,av t,nD c]
 |.join a o t c=>.tup [.str "join",nD a,nD o,.tup (t.map av),nD c]
 |.move a o c=>.tup [.str "move",nD a,nD o,nD c]
 |.put a w c=>.tup [.str "put",nD a,nD w,nD c]
noncomputable def aW.cost:aW->Nat
 |.turn _ _ c=>c
 |.join _ _ _ c=>c
 |.move _ _ c=>c
 |.put _ _ c=>c
structure aJ where
 words:Nat
 places:Nat
 deeds:List aW
noncomputable def aJ.d (m:aJ):D:=.tup [nD m.words,nD m.places,.tup (m.deeds.map aW.d)]
def iz (w:Nat)(t:List Nat):Prop:=t.length=w/\∀x∈t,x<w
def gn (c:Nat):Prop:=1<=c/\c<=3
def bZ (w p:Nat):aW->Prop
 |.turn a t c=>a<p/\iz w t/\gn c
 |.join a o t c=>a<p/\o<p/\(t.length=w/\∀x∈t,iz w x)/\gn c
 |.move a o c=>a<p/\o<p/\gn c
 |.put a x c=>a<p/\x<w/\gn c
structure aC (m:aJ):Prop where
 w2:2<=m.words
 w4:m.words<=4
 p1:1<=m.places
 p2:m.places<=2
 d1:1<=m.deeds.length
 d6:m.deeds.length<=6
 ok:∀d∈m.deeds,bZ m.words m.places d
def aG {n:Nat}(h:n<=100000):n<=sz:=Pa h `d
section
variable{P:Nat->Option Df}(h:HasB0 P){M:Mem}
include h
theorem u5 (n:Nat){w t:Nat}(j:t<w):ag P (n+2) 1 [nD w,nD t] M=.ok (.bl true) M:=by
 refine ak (aF h.is_word rfl ?_);simp[lZ,eW h];omega
theorem gu (n:Nat){w t:Nat}(j:t<w):ag P (n+2) 2 [nD w,nD t] M=.ok (.bl true) M:=by
 refine ak (aF h.is_place rfl ?_);simp[kW,eW h];omega
theorem ka (n:Nat){c:Nat}(j:gn c):ag P (n+2) 3 [nD c] M=.ok (.bl true) M:=by
 unfold gn at j;refine ak (aF h.is_cost rfl ?_);simp[l9,eW h];omega
theorem nq (n:Nat){w:Nat}{ds:List D}(j:ds.length=w):ag P (n+1) 4 [nD w,.tup ds] M=.ok (.bl true) M:=by
 refine ak (aF h.is_tuple_of rfl ?_);simp[h9,fY,j]
theorem sv (n:Nat){w:Nat}{t:List Nat}(v:w<=4)(j:iz w t):ag P (n+3) 5 [nD w,av t] M=.ok (.bl true) M:=by
 refine ak (aF h.is_table rfl ?_);have e:ag P (n+2) 4 [nD w,av t] M=.ok (.bl true) M:=nq h (n+1) (by simpa using j.1)
 simp[kU,e];refine{rfl,nZ (aG (by simp[j.1];omega)) rfl λd hd=>?_}
 obtain⟨x,u,rfl⟩:=Pf.mp hd;refine{_,rfl,ak ?_};simp[u5 h n (j.2 x u)]
theorem yG (n:Nat){w:Nat}{t:List (List Nat)}(u:w<=4)(j:t.length=w/\∀x∈t,iz w x):ag P (n+4) 6 [nD w,.tup (t.map av)] M=.ok (.bl true) M:=by
 refine ak (aF h.is_double_table rfl ?_);have e:ag P (n+3) 4 [nD w,.tup (t.map av)] M=.ok (.bl true) M:=nq h (n+2) (by simpa using j.1)
 simp[fi,e];refine{rfl,nZ (aG (by simp[j.1];omega)) rfl λd hd=>?_}
 obtain⟨x,v,rfl⟩:=Pf.mp hd;refine{_,rfl,ak ?_};simp[sv h n u (j.2 x v)]
theorem EI (n:Nat){w p a c:Nat}{t:List Nat}(j:w<=4)(hd:bZ w p (.turn a t c)):ag P (n+4) 7 [nD w,nD p,.tup [nD a,av t,nD c]] M=.ok (.bl true) M:=by
 obtain⟨h1,h2,h3⟩:=hd;refine ak (aF h.is_turn rfl ?_);simp[l4,cg,gu h (n+1) h1,sv h n j h2,ka h (n+1) h3]
theorem EU (n:Nat){w p a o c:Nat}{t:List (List Nat)}(j:w<=4)(hd:bZ w p (.join a o t c)):ag P (n+5) 8 [nD w,nD p,.tup [nD a,nD o,.tup (t.map av),nD c]] M=.ok (.bl true) M:=by
 obtain⟨h1,h2,h3,h4⟩:=hd;refine ak (aF h.is_join rfl ?_);simp[l6,cg,gu h (n+2) h1,gu h (n+2) h2,yG h n j h3,ka h (n+2) h4]
theorem ER (n:Nat){w p a o c:Nat}(hd:bZ w p (.move a o c)):ag P (n+3) 9 [nD w,nD p,.tup [nD a,nD o,nD c]] M=.ok (.bl true) M:=by
 obtain⟨h1,h2,h3⟩:=hd;refine ak (aF h.is_move rfl ?_);simp[l5,cg,gu h n h1,gu h n h2,ka h n h3]
theorem EN (n:Nat){w p a x c:Nat}(hd:bZ w p (.put a x c)):ag P (n+3) 10 [nD w,nD p,.tup [nD a,nD x,nD c]] M=.ok (.bl true) M:=by
 obtain⟨h1,h2,h3⟩:=hd;refine ak (aF h.is_put rfl ?_);simp[nX,cg,gu h n h1,u5 h n h2,ka h n h3]
end
def NO:dS.lookup (Str.ofString "turn")=some 7:=`k
def NN:dS.lookup (Str.ofString "join")=some 8:=`k
def NM:dS.lookup (Str.ofString "move")=some 9:=`k
def NL:dS.lookup (Str.ofString "put")=some 10:=`k
section
variable{P:Nat->Option Df}(h:HasB0 P){M:Mem}
include h
theorem rZ (n:Nat){w p f:Nat}{s:Str}{ds:List D}(lk:dS.lookup s=some f)(q:ag P (n+5) f [nD w,nD p,.tup ds] M=.ok (.bl true) M):ag P (n+6) 11 [nD w,nD p,.tup (.str s::ds)] M=.ok (.bl true) M:=by
 refine ak (aF h.is_deed rfl ?_);simp[-List.lookup_isSome_iff,l7,fY,b6,lk,cQ,aK,d4,cut,q]
theorem EV (n:Nat){w p:Nat}{d:aW}(j:w<=4)(hd:bZ w p d):ag P (n+6) 11 [nD w,nD p,d.d] M=.ok (.bl true) M:=by
 cases d with
 |turn a t c=>exact rZ h n NO (EI h (n+1) j hd)
 |join a o t c=>exact rZ h n NN (EU h n j hd)
 |move a o c=>exact rZ h n NM (ER h (n+2) hd)
 |put a x c=>exact rZ h n NL (EN h (n+2) hd)
theorem ET (n:Nat){m:aJ}(hm:aC m):ag P (n+7) 12 [m.d] M=.ok (.bl true) M:=by
 refine ak (aF h.is_machine rfl ?_);have e:ag P (n+6) 4 [.int 3,.tup [nD m.words,nD m.places,.tup (m.deeds.map aW.d)]] M=.ok (.bl true) M:=nq h (n+5) rfl;have l1:=hm.d1;have y:=hm.d6;have j:(decide ((2:Int)<=(m.words:Int))&&decide ((m.words:Int)<=4))=true:=by have:=hm.w2;have:=hm.w4;simp;omega
 have u:(decide ((1:Int)<=(m.places:Int))&&decide ((m.places:Int)<=2))=true:=by have:=hm.p1;have:=hm.p2;simp;omega
 simp only[O3,decide_eq_true_eq] at j u;simp[i8,aJ.d,e,cg,eW h,j,u,fY];refine{`a,`a,rfl,nZ (aG `o) rfl λd hd=>?_}
 obtain⟨x,v,rfl⟩:=Pf.mp hd;refine{_,rfl,ak ?_};simp[EV h n hm.w4 (hm.ok x v)]
end
section
variable{Z:Env}{M:Mem}{a b:GE}{s:GA}{k:D->Mem->Prop}{kf:Fl->Mem->Prop}{t u:GT}{A rest:GS}
def bo {t rest:GS}{ρ':Env}(e:t Z M=.ok (.next ρ') M)(h:ae (rest ρ' M) kf):ae (aT t rest Z M) kf:=by
 simp only[aM];rw[e];exact h
def af {x:D}{xs:List D}(h:a Z M=.ok x M)(es:s Z M=.ok xs M):b7 a s Z M=.ok (x::xs) M:=by
 unfold b7;rw[h];show(s Z M).bind _=_;rw[es];rfl
def zu {xs:List D}(es:s Z M=.ok xs M)(hl:xs.length<=100):bt false s Z M=.ok (.lst xs) M:=by
 unfold bt;rw[es];show(if xs.length<=sz then(if false=true then _ else Res.ok (D.lst xs) M) else .bad)=_;rw[if_pos (aG `a)]
 rfl
def pw {xs ys:List D}(h:a Z M=.ok (.lst xs) M)(j:b Z M=.ok (.lst ys) M)(hl:(xs++ys).length<=100):ai false .add a b Z M=.ok (.lst (xs++ys)) M:=by
 unfold ai;rw[h];show(b Z M).bind _=_;rw[j];show(if (xs++ys).length<=sz then(if false=true then _ else Res.ok (D.lst (xs++ys)) M) else .bad)=_;rw[if_pos (aG `a)]
 rfl
def bJ {i:Nat}{x:D}(e:a Z M=.ok x M):aw (.one i) a Z M=.ok (.next (Z.set i (some x))) M:=by
 unfold aw;rw[e];rfl
def az {j:Nat}{x:D}(h:Z[j]?.getD none=some x):aa j Z M=.ok x M:=by
 unfold aa;rw[h];rfl
def bg {f:Nat}{c:Call}{xs:List D}(e:s Z M=.ok xs M):ah f c s Z M=c f xs M:=by
 unfold ah;rw[e];rfl
def cS {i:Nat}(h:ae (a Z M) k)(hk:∀x M',k x M'->ae (rest (Z.set i (some x)) M') kf):ae (aT (aw (.one i) a) rest Z M) kf:=by
 obtain⟨x,M',e,q⟩:=ig.mp h;simp only[aM];unfold aw;rw[e];exact hk x M' q
def zI (j:t Z M=.ok true M)(h:ae (A Z M) (ic rest kf)):ae (aT (aL t A aE) rest Z M) kf:=by
 simp only[aM,jO];rw[j];exact h
def cf {b:Bool}(h:t Z M=.ok b M)(h1:b=true->ae (A Z M) (ic rest kf))(h2:b=false->ae (rest Z M) kf):ae (aT (aL t A aE) rest Z M) kf:=by
 cases b with
 |true=>exact zI h (h1 rfl)
 |false=>exact dR h (h2 rfl)
def zi {b:Bool}(h:t Z M=.ok b M):b3 t Z M=.ok (!b) M:=by
 unfold b3;rw[h];rfl
def cZ {b:Bool}(h:a Z M=.ok (.bl b) M):aq a Z M=.ok b M:=by
 unfold aq;rw[h];rfl
def Li (h1:t Z M=.ok false M)(h2:u Z M=.ok false M):ff t u Z M=.ok false M:=by
 unfold ff;rw[h1];exact h2
def Lj {x y:Bool}(h1:t Z M=.ok x M)(h2:u Z M=.ok y M):ff t u Z M=.ok (x||y) M:=by
 unfold ff;rw[h1];cases x with
 |true=>rfl
 |false=>exact h2
def Kp {b:Bool}(h1:t Z M=.ok b M)(h2:b=true->u Z M=.ok false M):d8 t u Z M=.ok false M:=by
 unfold d8;rw[h1];cases b with
 |true=>exact h2 rfl
 |false=>rfl
def wa {x y:Bool}(h1:t Z M=.ok x M)(h2:u Z M=.ok y M):d8 t u Z M=.ok (x&&y) M:=by
 unfold d8;rw[h1];cases x with
 |true=>exact h2
 |false=>rfl
def iI {k:Bool}{x:D}(h:t Z M=.ok k M)(h1:k=true->a Z M=.ok x M)(h2:k=false->b Z M=.ok x M):fZ t a b Z M=.ok x M:=by
 unfold fZ;rw[h];cases k with
 |true=>exact h1 rfl
 |false=>exact h2 rfl
end
def iH {t:GT}{A rest:GS}{Z:Env}{M:Mem}{k:Fl->Mem->Prop}{R:Mem->Prop}(j:ae (t Z M) λb M'=>b=false/\R M')(h:∀M',R M'->ae (rest Z M') k):ae (aT (aL t A aE) rest Z M) k:=by
 simp only[aM,jO];obtain⟨b,M',e,rfl,r⟩:=ig.mp j;rw[e];exact h M' r
structure Sub (M M':Mem):Prop where
 len:M.length<=M'.length
 at':∀k,k<M.length->M'[k]?=M[k]?
def Sub.refl:Sub M M:={OZ _,λ_ _=>rfl}
def Sub.trans (a:Sub M M1)(b:Sub M1 M2):Sub M M2:={Pa a.len b.len,λk hk=>(b.at' k (Pj hk a.len)).trans (a.at' k hk)}
def Sub.app:Sub M (M++X):={`s,λk hk=>O4 hk}
def Sub.get {k:Nat}(h:Sub M M')(e:M[k]?=some ds):M'[k]?=some ds:=by rw[h.at' k (OV.mp e).1];exact e
def Sub.setq (h:Sub M M')(j:M.length<=q):Sub M (M'.set q ds):={by simpa using h.len,λk hk=>by rw[O5 `a];exact h.at' k hk}
def xt (f:D->D)(hz:acc0.length+ds.length<=sz)(v:w M=some ds)(hs:∀d∈ds,∃ρ1,bV tg d ρ0=some ρ1/\ge ρ1 M=.ok (f d) M)(hk:kl (acc0++ds.map f) M) :
 ae (c6 (dr tg (cy ge) ρ0) w acc0 M) kl:=by
 refine fz (λi j u=>u=M/\j=acc0++(ds.take i).map f) (λi j u h=>by rw[h.1];exact v) {rfl,`s} ?_ ?_
 ·rintro i d j u hd ⟨rfl,rfl⟩;obtain⟨ρ1,e1,e2⟩:=hs d (PZ hd);have y:i<ds.length:=(OV.mp hd).1;simp only[dr,aV,fV,e1,DZ];refine{ρ1,rfl,?_};rw[e2];refine{by simp;omega,rfl,?_}
  rw[Qq,hd];simp
 ·rintro j u ⟨rfl,rfl⟩;simpa using hk
def qa {j u:Type}(f:j->List u)(n:Nat):∀(ds:List j),(∀d∈ds,(f d).length<=n)->(ds.flatMap f).length<=ds.length*n
 |[],_=>`s
 | d :: r, h => by
   have h1:=h d Pm;have h2:=qa f n r λd hd=>h d (O6 _ hd);simp only[List.flatMap_cons,O9,PD,Nat.succ_mul];omega
def xu (j:D->List D)(f:D->D->D)(n:Nat)(hn:∀d∈ds,(j d).length<=n)(hz:ds.length*n<=sz)(H:w M=some ds)
 (hs:∀d∈ds,∃ρ1,bV t d ρ0=some ρ1/\∃w2,gw2 ρ1 M=.ok w2 M/\w2 M=some (j d)/\∀e∈j d,∃y,bV u e ρ1=some y/\ge y M=.ok (f d e) M) (hk:kl (ds.flatMap λd=>(j d).map (f d)) M) :
 ae (c6 (dr t (tX u gw2 (cy ge)) ρ0) w [] M) kl:=by
 refine fz (λi v z=>z=M/\v=(ds.take i).flatMap λd=>(j d).map (f d)) (λi v z h=>by rw[h.1];exact H) {rfl,`s} ?_ ?_
 ·rintro i d v z hd ⟨rfl,rfl⟩;obtain⟨ρ1,e1,w2,e2,E,F⟩:=hs d (PZ hd);simp only[dr,aV,fV,e1,tX];refine{ρ1,rfl,?_};rw[e2];have B:(ds.take (i+1)).flatMap (λd=>(j d).map (f d))=(ds.take i).flatMap (λd=>(j d).map (f d))++(j d).map (f d):=by
   rw[Qq,hd];simp
  have l1:=qa (λd=>(j d).map (f d)) n (ds.take (i+1)) (λd hd=>by simpa using hn d (PY hd))
  rw[B] at l1;simp only[O9,OY,PR] at l1;refine xt (f d) ?_ E F ⟨rfl,B.symm⟩;have:(min (i+1) ds.length)*n<=ds.length*n:=Nat.mul_le_mul_right _ (Nat.min_le_right _ _);omega
 ·rintro v z ⟨rfl,rfl⟩;simpa using hk
noncomputable def qb (w:Nat)(l:List (List Nat)):List (List Nat):=l.flatMap λs=>(List.range w).map λx=>s++[x]
def c8 (w:Nat):Nat->List (List Nat)
 |0=>[[]]
 |p+1=>qb w (c8 w p)
def aU (m:aJ):List (List Nat):=c8 m.words m.places
def d7 (m:aJ)(s:List Nat):Prop:=s.length=m.places/\∀x∈s,x<m.words
def uD:∀s∈c8 w p,s.length=p/\∀x∈s,x<w:=by
 induction p with
 |zero=>intro s hs;simp[c8] at hs;subst hs;simp
 | succ p v =>
   intro s hs;simp only[c8,qb,List.mem_flatMap,Pf,QP] at hs;obtain⟨t,j,x,B,rfl⟩:=hs;obtain⟨h1,h2⟩:=v t j;refine{by simp[h1],λy u=>?_}
   rcases PL.mp u with z|z
   ·exact h2 y z
   ·simp at z;omega
def mQ:∀s∈aU m,d7 m s:=uD
def jx (j:w<=4):∀p≤2,(c8 w p).length<=4^p
 |0,_=>by simp[c8]
 | p + 1, u => by
   have:=jx j p `a
   have l:=qa (λs:List Nat=>(List.range w).map λx=>s++[x]) 4 (c8 w p) (λd hd=>by simpa using j)
   calc _<=(c8 w p).length*4:=l
    _<=4^p*4:=Nat.mul_le_mul_right _ this
    _=4^(p+1):=by rw[Nat.pow_succ]
def kL (hm:aC m):(aU m).length<=16:=by
 have h:=jx hm.w4 m.places hm.p2;have h1:=hm.p1;have h2:=hm.p2;have:m.places=1\/m.places=2:=`a
 rcases this with e|e<;>rw[e] at h<;>unfold aU<;>rw[e]<;>omega
def ri:∀(p:Nat) (s:List Nat),s.length=p->(∀x∈s,x<w)->s∈c8 w p
 | 0, s, hl, _ => by
   obtain rfl:=QH.mp hl;simp[c8]
 | p + 1, s, hl, j => by
   have ne:s≠[]:=by intro e;subst e;cases hl
   have u:=List.dropLast_concat_getLast ne;show s∈qb w (c8 w p);unfold qb;rw[List.mem_flatMap];refine{s.dropLast,ri p _ (by simp[hl]) (λx h=>j x (List.dropLast_subset _ h)),?_}
   rw[Pf];exact{s.getLast ne,QP.mpr (j _ (List.getLast_mem ne)),u}
def uC (hm:aC m)(h:d7 m s):s∈aU m:=ri _ s h.1 h.2
noncomputable def d5:aW->List Nat->Nat
 |.turn a t _,s=>t.getD (s.getD a 0) 0
 |.join a o t _,s=>(t.getD (s.getD a 0) []).getD (s.getD o 0) 0
 |.move _ o _,s=>s.getD o 0
 |.put _ x _,_=>x
def aW.at':aW->Nat
 |.turn a _ _=>a
 |.join a _ _ _=>a
 |.move a _ _=>a
 |.put a _ _=>a
def bY (d:aW)(s:List Nat):List Nat:=s.take d.at'++[d5 d s]++s.drop (d.at'+1)
def getD_mem {j:Type}{l:List j}{d:j}(h:i<l.length):l.getD i d∈l:=by
 rw[Qz,Pd h];exact QZ h
def wO {m:aJ}(hd:bZ m.words m.places d)(hs:d7 m s):d5 d s<m.words:=by
 obtain⟨hl,j⟩:=hs;cases d with
 | turn a t c =>
   obtain⟨h1,h2,h3⟩:=hd;have:=j _ (getD_mem (d:=0) (show a<s.length by omega))
   exact h2.2 _ (getD_mem (by rw[h2.1];exact this))
 | join a o t c =>
   obtain⟨h1,h2,h3,h4⟩:=hd;have a1:=j _ (getD_mem (d:=0) (show a<s.length by omega))
   have a2:=j _ (getD_mem (d:=0) (show o<s.length by omega))
   have a3:=h3.2 _ (getD_mem (d:=[]) (show s.getD a 0<t.length by rw[h3.1];exact a1))
   exact a3.2 _ (getD_mem (by rw[a3.1];exact a2))
 |move a o c=>exact j _ (getD_mem (by obtain⟨h1,h2,h3⟩:=hd;omega))
 |put a x c=>exact hd.2.1
def D0 (hd:bZ w p d):d.at'<p:=by cases d<;>exact hd.1
def qT (hd:bZ m.words m.places d)(hs:d7 m s):d7 m (bY d s):=by
 have h1:=D0 hd;have h2:=wO hd hs;obtain⟨hl,j⟩:=hs;refine{by simp[bY];omega,λx hm=>?_}
 simp only[bY,PL,Pr] at hm;rcases hm with(z|z)|z
 ·exact j x (PY z)
 ·omega
 ·exact j x (List.mem_of_mem_drop z)
def cq (m:aJ)(r:List Nat):Prop:=r.length<=40/\∀i∈r,i<m.deeds.length
noncomputable def bQ (m:aJ)(i:Nat):aW:=m.deeds.getD i (.put 0 0 1)
def bU (m:aJ):List Nat->List Nat->List Nat
 |[],s=>s
 |i::r,s=>bU m r (bY (bQ m i) s)
def dt (m:aJ):List Nat->List Nat->List (List Nat)
 |[],s=>[s]
 |i::r,s=>s::dt m r (bY (bQ m i) s)
def ie {m:aJ}(hm:aC m){i:Nat}(hi:i<m.deeds.length):bZ m.words m.places (bQ m i):=hm.ok _ (getD_mem hi)
def qc (hm:aC m):∀{r:List Nat}{s:List Nat},(∀i∈r,i<m.deeds.length)->d7 m s->d7 m (bU m r s)
 |[],s,_,h=>h
 |i::r,s,hr,h=>qc (r:=r) hm (λj u=>hr j (O6 _ u)) (qT (ie hm (hr i Pm)) h)
def gA:∀(a b s:List Nat),bU m (a++b) s=bU m b (bU m a s)
 |[],b,s=>rfl
 |i::a,b,s=>gA a b _
def qF:∀(r:List Nat) (i:Nat) (s:List Nat),dt m (r++[i]) s=dt m r s++[bY (bQ m i) (bU m r s)]
 |[],i,s=>rfl
 |j::r,i,s=>by simp[dt,bU,qF r i]
def nu:∀(r s:List Nat),(dt m r s).length=r.length+1
 |[],s=>rfl
 |i::r,s=>by simp[dt,nu r]
def qG:∀(r s:List Nat),(dt m r s)[r.length]?=some (bU m r s)
 |[],s=>rfl
 |i::r,s=>by simp[dt,bU,qG r]
def mW (r s:List Nat):((b6 (dt m r s).length (-1)).bind λj=>Option.map av (dt m r s)[j]?)=some (av (bU m r s)):=by
 rw[nu,FU `a]
 show Option.map av (dt m r s)[r.length+1-1]?=_;rw[Nat.add_sub_cancel,qG];rfl
def A2 {s:List Nat}(hi:i<s.length):(b6 (s.map nD).length (i:Int)).bind (λj=>(s.map nD)[j]?)=some (nD (s.getD i 0)):=by
 rw[eM (by simpa using hi)]
 simp[Qz,hi]
def aR (r:List Nat):D:=.lst (r.map nD)
noncomputable def ay (m:aJ)(r:List Nat):Nat:=(r.map λi=>(bQ m i).cost).sum
def BC {i:Nat}(hi:i<m.deeds.length):((b6 (m.deeds.map aW.d).length (i:Int)).bind λj=>(m.deeds.map aW.d)[j]?)=some (bQ m i).d:=by
 rw[eM (by simpa using hi)]
 simp[bQ,Qz,hi]
def IZ {m:aJ}:da m.d (.int 2) M=some (.tup (m.deeds.map aW.d)):=rfl
def tV (hi:i<m.deeds.length):da (.tup (m.deeds.map aW.d)) (nD i) M=some (bQ m i).d:=BC hi
def lS {d:aW}:da d.d (.int (-1)) M=some (nD d.cost):=by cases d<;>rfl
def jW {s:List Nat}(hi:i<s.length):da (av s) (nD i) M=some (nD (s.getD i 0)):=A2 hi
def Jq {t:List (List Nat)}(hi:i<t.length):da (.tup (t.map av)) (nD i) M=some (av (t.getD i [])):=by
 show(b6 (t.map av).length (i:Int)).bind (λj=>(t.map av)[j]?)=_;rw[eM (by simpa using hi)]
 simp[Qz,hi]
def aX (M:Mem)(x:D)(r:List Nat):Prop:=x=.lst (r.map nD)\/∃q,x=.cell q/\M[q]?=some (r.map nD)
def aX.l:aX M (.lst (r.map nD)) r:=.inl rfl
def aX.c (h:M[q]?=some (r.map nD)):aX M (.cell q) r:=.inr ⟨q,rfl,h⟩
def aX.sub {M M':Mem}(h:aX M x r)(s:Sub M M'):aX M' x r:=h.elim .inl λ⟨q,e,g⟩=>.inr {q,e,s.get g}
def aX.seq (h:aX M x r):bR M x=some (r.map nD):=by
 rcases h with rfl|⟨q,rfl,e⟩
 ·rfl
 ·exact e
def aX.rd (h:aX M x r):d3 M x=some (r.map nD):=by
 rcases h with rfl|⟨q,rfl,e⟩
 ·rfl
 ·exact e
def aX.is (h:aX M x r):dG x=true/\dY x=true/\fY .list x=some true:=by
 rcases h with rfl|⟨q,rfl,e⟩<;>exact⟨rfl,rfl,rfl⟩
def aX.len (h:aX M x r):ae (ee .len [x] M) k↔k (.int r.length) M:=by
 rcases h with rfl|⟨q,rfl,e⟩
 ·show k (.int (r.map nD).length) M↔_;simp
 ·show ae (match M[q]? with|some xs=>_|none=>_) k↔_
  rw[e];simp
def aX.list (h:aX M x r):ae (ee (.list m) [x] M) k↔ae (a7 m (r.map nD) M) k:=by
 rcases h with rfl|⟨q,rfl,e⟩
 ·exact Qm
 ·show ae (match M[q]? with|some xs=>_|none=>_) k↔_
  rw[e]
def aX.vw (h:aX M x r):view M x=.lst (r.map nD):=by
 rcases h with rfl|⟨q,rfl,e⟩
 ·rfl
 ·simp[view,e]
def tR (f:Nat->Nat):∀(r:List Nat),∃bs,intsOf (r.map λi=>nD (f i))=some bs/\bs.sum=(((r.map f).sum:Nat):Int)
 |[]=>{[],rfl,rfl}
 | i :: r => by
   obtain⟨bs,e1,e2⟩:=tR f r;exact{(f i:Int)::bs,by simp[intsOf,e1],by simp[e2]}
section
variable{P:Nat->Option Df}(h:HasB0 P){M:Mem}
include h
theorem sC (n:Nat)(hm:aC m):ag P (n+8) 13 [m.d] M=.ok .non M:=by
 refine ak (aF h.need_machine rfl ?_);simp[gE,ET h n hm]
theorem jN (h15:P 15=some {1,6,bG})(n:Nat)(hm:aC m):ag P (n+9) 15 [m.d] M=.ok (.lst ((aU m).map av)) M:=by
 refine ak (aF h15 rfl ?_);have w4:=hm.w4;have p2:=hm.p2;simp[bG,sC h n hm];simp[aJ.d,cg];refine{`d,`a,?_}
 refine fL (λi u j=>j=M/\∃a,u=[some m.d,some (nD m.words),some (nD m.places),some (.tup (m.deeds.map aW.d)),some (.lst ((c8 m.words i).map av)),a]) (λ_ _ _ _=>rfl) {rfl,none,by simp[aJ.d,c8,av]} ?_ ?_
 ·rintro i d u j hd ⟨rfl,a,rfl⟩;have y:i<m.places:=by
   have:=(OV.mp hd).1;simpa using this
  refine{_,rfl,?_};simp[dG];refine xu (λ_=>(List.range m.words).map λ(k:Nat)=>D.int (k:Int)) (λd e=>match d,e with|.tup x,e=>.tup (x++[e])|_,_=>.non) 4 (by simpa using λ_ _=>w4) ?_ rfl ?_ ?_
  ·have:=jx w4 i `a
   have:(4:Nat)^i<=4^2:=Nat.pow_le_pow_right `d `a
   simp only[OY];exact aG `a
  ·intro d hd;obtain⟨s,hs,rfl⟩:=Pf.mp hd;have{l1,_}:=uD s hs;refine{_,rfl,(λ_=>some ((List.range m.words).map λ(k:Nat)=>D.int (k:Int))),fM ?_,rfl,λe he=>{_,rfl,ak ?_}}
   ·simp;omega
   ·simp[av,sz];omega
  ·have v:((c8 m.words i).map av).flatMap (λd=>((List.range m.words).map λ(k:Nat)=>D.int (k:Int)).map (λe=>match d,e with|.tup x,e=>D.tup (x++[e])|_,_=>.non))=(c8 m.words (i+1)).map av:=by
    simp only[c8,qb,List.flatMap_map,List.map_flatMap,Qi]
    congr 1
    funext s
    simp[av,Function.comp_def]
   rw[v];refine{?_,rfl,rfl};have:=jx w4 (i+1) `a
   have:(4:Nat)^(i+1)<=4^2:=Nat.pow_le_pow_right `d `a
   simp only[OY];exact aG `a
 ·rintro u j ⟨rfl,a,rfl⟩;simp[aU]
end
section
variable{P:Nat->Option Df}(h:HasM0 P){M:Mem}
include h
theorem u9 (n:Nat){m:aJ}(hi:i<m.deeds.length):ag P (n+2) 16 [m.d,nD i] M=.ok (.bl true) M:=by
 refine ak (aF h.is_deed_number rfl ?_);simp[fG,aJ.d,b6,eW h.toHasB0];omega
theorem wz (n:Nat){m:aJ}(v:aX M x r)(hr:∀i∈r,i<m.deeds.length):ag P (n+3) 17 [m.d,x] M=.ok .non M:=by
 refine ak (aF h.need_numbers rfl ?_);obtain⟨y,z,B⟩:=v.is;simp[gD,y,z,B];refine fL (λi u j=>j=M/\∃a b,u=[some m.d,some x,a,b]) (λ_ _ _ e=>by rw[e.1,v.seq];rfl) ⟨rfl,none,none,rfl⟩ ?_ ?_
 ·rintro i d u j hd ⟨rfl,a,b,rfl⟩;rw[g5] at hd;rw[Pt] at hd;cases e:r[i]? with
  |none=>rw[e] at hd;cases hd
  | some x =>
    rw[e] at hd;simp at hd;subst hd;refine{_,rfl,?_};simp[u9 h n (hr x (PZ e))]
 ·rintro u j ⟨rfl,a,b,rfl⟩;simp
theorem jj (n:Nat)(j:aX M x r)(hm:aC m)(hr:cq m r):ag P (n+9) 18 [m.d,x] M=.ok .non M:=by
 have e:=wz h (n+5) j hr.2;refine ak (aF h.need_row rfl ?_);simp[kS,sC h.toHasB0 n hm,e];rw[j.len];have:=hr.1;simp;omega
theorem iP (h47:P 47=some {2,2,b8})(n:Nat){m:aJ}(j:aX M x r)(hl:r.length<=100000)(hr:∀i∈r,i<m.deeds.length):ag P (n+1) 47 [m.d,x] M=.ok (nD (ay m r)) M:=by
 refine ak (aF h47 rfl ?_);simp[b8,j.is];refine g8 (λd=>match d with|.int i=>nD (bQ m i.toNat).cost|_=>.non) (aG `o) j.seq ?_ ?_
 ·intro d hd;obtain⟨x,j,rfl⟩:=Pf.mp hd;refine{_,rfl,ak ?_};simp[-iJ,IZ,tV (hr x j),lS]
 ·obtain⟨bs,e1,e2⟩:=tR (λi=>(bQ m i).cost) r;refine{?_,bs,?_,?_,rfl}
  ·simp;exact aG `a
  ·simpa[Function.comp_def] using e1
  ·exact e2
theorem wB (h19:P 19=some {2,2,j3})(h47:P 47=some {2,2,b8})(n:Nat)(j:aX M x r)(hm:aC m)(hr:cq m r):ag P (n+10) 19 [m.d,x] M=.ok (nD (ay m r)) M:=by
 refine ak (aF h19 rfl ?_);simp[j3,jj h n j hm hr,iP h h47 (n+8) j (Pa hr.1 `d) hr.2]
theorem iD (h19:P 19=some {2,2,j3})(h47:P 47=some {2,2,b8})(n:Nat)(hm:aC m)(hr:cq m r):ag P (n+10) 19 [m.d,aR r] M=.ok (nD (ay m r)) M:=wB h h19 h47 n .l hm hr
end
section
variable{P:Nat->Option Df}(h:jB P){M:Mem}
include h
theorem yw (n:Nat){m:aJ}(hd:bZ m.words m.places (.turn a t c))(hs:d7 m s):ag P (n+1) 20 [(aW.turn a t c).d,av s] M=.ok (nD (d5 (.turn a t c) s)) M:=by
 obtain⟨h1,h2,h3⟩:=hd;have a1:a<s.length:=by rw[hs.1];exact h1
 have a2:s.getD a 0<t.length:=by rw[h2.1];exact hs.2 _ (getD_mem a1)
 refine ak (aF h.turned rfl ?_);simp[-iJ,-List.getD_eq_getElem?_getD,kM,aW.d,cg,jW a1,jW a2,d5]
theorem yE (n:Nat){a o c:Nat}(hd:bZ m.words m.places (.join a o t c))(hs:d7 m s):ag P (n+1) 21 [(aW.join a o t c).d,av s] M=.ok (nD (d5 (.join a o t c) s)) M:=by
 obtain⟨h1,h2,h3,h4⟩:=hd;have a1:a<s.length:=by rw[hs.1];exact h1
 have a2:o<s.length:=by rw[hs.1];exact h2
 have a3:s.getD a 0<t.length:=by rw[h3.1];exact hs.2 _ (getD_mem a1)
 have a4:s.getD o 0<(t.getD (s.getD a 0) []).length:=by rw[(h3.2 _ (getD_mem a3)).1];exact hs.2 _ (getD_mem a2)
 refine ak (aF h.joined rfl ?_);simp[-iJ,-List.getD_eq_getElem?_getD,kT,aW.d,cg,jW a1,jW a2,Jq a3,jW a4,d5]
theorem A7 (n:Nat)(hd:bZ m.words m.places (.move a o c))(hs:d7 m s):ag P (n+1) 22 [(aW.move a o c).d,av s] M=.ok (nD (d5 (.move a o c) s)) M:=by
 obtain⟨h1,h2,h3⟩:=hd;have a2:o<s.length:=by rw[hs.1];exact h2
 refine ak (aF h.moved rfl ?_);simp[-iJ,-List.getD_eq_getElem?_getD,mR,aW.d,cg,jW a2,d5]
theorem A4 (n:Nat):ag P (n+1) 23 [(aW.put a x c).d,av s] M=.ok (nD (d5 (.put a x c) s)) M:=by
 refine ak (aF h.put_in rfl ?_);simp[kQ,aW.d,cg,d5]
end
def NS:cD.lookup (Str.ofString "turn")=some 20:=`k
def NR:cD.lookup (Str.ofString "join")=some 21:=`k
def NQ:cD.lookup (Str.ofString "move")=some 22:=`k
def NP:cD.lookup (Str.ofString "put")=some 23:=`k
def Ht {a:Nat}(j:a<=s.length):ae (cQ false (av s) .non (.int a) M) k↔k (av (s.take a)) M:=by
 simp only[cQ,av,aK,cut];rw[if_neg `a]
 simp;rw[Q5 (by simpa using j)]
def EZ {a:Nat}(j:a<=s.length):ae (cQ false (av s) (.int a) .non M) k↔k (av (s.drop a)) M:=by
 simp only[cQ,av,aK,cut];rw[if_neg `a]
 simp;rw[Q5 (by simpa using j),Pw `s]
section
variable{P:Nat->Option Df}(h:jB P){M:Mem}
include h
theorem u7 (n:Nat){d:aW}(hm:aC m)(hd:bZ m.words m.places d)(hs:d7 m s):ag P (n+2) 24 [d.d,av s] M=.ok (av (bY d s)) M:=by
 have a0:=D0 hd;have l0:=hs.1;have p2:=hm.p2;have j:∀f,ag P (n+1) f [d.d,av s] M=.ok (nD (d5 d s)) M->da d.d (.int 1) M=some (nD d.at')->(∀k:D->Mem->Prop,(∃y,da d.d (.int 0) M=some (.str y)/\cD.lookup y=some f))->ag P (n+2) 24 [d.d,av s] M=.ok (av (bY d s)) M:=λf e1 e2 u=>by
  obtain⟨y,u,v⟩:=u λ_ _=>True;refine ak (aF h.done rfl ?_);simp only[pf,aM,oj,JG,rY,bp,fN,bC,eL,jw,f7,e9,bO,cJ,F4];simp[-iJ,e1,e2,u,v,d4];rw[Ht `a,e1]
  have z:(d.at':Int)+1=((d.at'+1:Nat):Int):=`a
  rw[z];simp only[bS,av,Aj];refine{`d,?_,?_}
  ·simp;exact aG `a
  ·rw[show D.tup (s.map nD)=av s from rfl,EZ `a]
   simp only[av,Aj];refine{?_,?_,trivial}
   ·simp;exact aG `a
   ·simp[bY]
 cases d with
 |turn a t c=>exact j 20 (yw h n hd hs) rfl λ_=>{_,rfl,NS}
 |join a o t c=>exact j 21 (yE h n hd hs) rfl λ_=>{_,rfl,NR}
 |move a o c=>exact j 22 (A7 h n hd hs) rfl λ_=>{_,rfl,NQ}
 |put a x c=>exact j 23 (A4 h n) rfl λ_=>{_,rfl,NP}
end
section
variable{P:Nat->Option Df}(h:HasM P){M:Mem}
include h
theorem uQ (n:Nat)(u:aX M x r)(hm:aC m)(F:r.length<=100000)(hr:∀i∈r,i<m.deeds.length)(hs:d7 m s):ag P (n+3) 25 [m.d,x,av s] M=.ok (.cell M.length) (M++[(dt m r s).map av]):=by
 refine ak (aF h.all_standing rfl ?_);simp[gF,u.is];refine{`d,?_}
 refine fL (λi B v=>v=M++[(dt m (r.take i) s).map av]/\∃a,B=[some m.d,some x,some (av s),some (.cell M.length),a]) (λ_ _ _ e=>by rw[e.1];exact(u.sub Sub.app).seq) {by simp[dt],none,rfl} ?_ ?_
 ·rintro i d B v hd ⟨rfl,a,rfl⟩;rw[Pt] at hd;cases e:r[i]? with
  |none=>rw[e] at hd;cases hd
  | some x =>
    rw[e] at hd;simp at hd;subst hd;have u:=hr x (PZ e);have H:i<r.length:=(OV.mp e).1;refine{_,rfl,?_};have z:d7 m (bU m (r.take i) s):=qc hm (λj E=>hr j (PY E)) hs;have hl:=nu (m:=m) (r.take i) s;have y:(r.take i).length=i:=by simp;omega
    simp[-iJ,IZ,tV u,mW,u7 h.r n hm (ie hm u) z];refine{?_,?_}
    ·rw[hl,y];exact Ri (show i+1<=100001 by omega) `d
    ·rw[Qq,e];simp[qF]
 ·rintro B v ⟨rfl,a,rfl⟩;simp
def hZ (m:aJ)(r:List Nat):D:=.tup ((aU m).map λs=>av (bU m r s))
theorem fR (h15:P 15=some {1,6,bG})(h46:P 46=some {2,2,eP})(n:Nat)(z:aX M x r)(hm:aC m)(v:r.length<=100000)(hr:∀i∈r,i<m.deeds.length):ag P (n+10) 46 [m.d,x] M=.ok (hZ m r) (M++(aU m).map λs=>(dt m r s).map av):=by
 refine ak (aF h46 rfl ?_);simp[eP,jN h.toHasM0.toHasB0 h15 n hm];refine{rfl,?_};have bl:=kL hm;refine comp_map (λi j u=>j=((aU m).take i).map (λs=>av (bU m r s))/\u=M++((aU m).take i).map λs=>(dt m r s).map av) (aG `o) (λ_ _ _ _=>rfl) `s ?_ ?_
 ·rintro i d j u hd _ ⟨rfl,y⟩;rw[Pt] at hd;cases e:(aU m)[i]? with
  |none=>rw[e] at hd;cases hd
  | some s =>
    rw[e] at hd;have hd:=O2 hd;subst hd;have hs:=mQ s (PZ e);refine{_,rfl,?_};have st:=uQ h (n+6) (M:=u) (by rw[y];exact z.sub Sub.app) hm v hr hs
    simp[st,mW];rw[y,Qq,Qq];simp[e]
 ·rintro j u _ ⟨rfl,rfl⟩;simp;exact{aG `a,by simp[hZ,Pw]}
theorem yF (h15:P 15=some {1,6,bG})(h46:P 46=some {2,2,eP})(n:Nat)(hm:aC m)(hr:cq m r):ag P (n+10) 46 [m.d,aR r] M=.ok (hZ m r) (M++(aU m).map λs=>(dt m r s).map av):=fR h h15 h46 n .l hm (Pa hr.1 `d) hr.2
theorem lA (h15:P 15=some {1,6,bG})(h27:P 27=some {2,2,fv})(h46:P 46=some {2,2,eP})(n:Nat)(j:aX M x r)(hm:aC m)(hr:cq m r):ag P (n+11) 27 [m.d,x] M=.ok (hZ m r) (M++(aU m).map λs=>(dt m r s).map av):=by
 refine ak (aF h27 rfl ?_);simp[fv,jj h.toHasM0 (n+1) j hm hr,fR h h15 h46 n j hm (Pa hr.1 `d) hr.2]
theorem yH (h15:P 15=some {1,6,bG})(h27:P 27=some {2,2,fv})(h46:P 46=some {2,2,eP})(n:Nat)(hm:aC m)(hr:cq m r):ag P (n+11) 27 [m.d,aR r] M=.ok (hZ m r) (M++(aU m).map λs=>(dt m r s).map av):=lA h h15 h27 h46 n .l hm hr
end
@[simp] theorem tJ:ae (ee .len [.cell j] M) k↔∃ds,M[j]?=some ds/\k (.int ds.length) M:=by
 show ae (match M[j]? with|some xs=>_|none=>_) k↔_
 cases M[j]?<;>simp
structure aN (M:Mem) (p B:Nat):Prop where
 ex:∃(c:Nat) (cells:List Int) (at_ st:Int),M[p]?=some [.cell c,.int at_,.int st]/\M[c]?=some (cells.map D.int)/\c<p/\0<=at_/\at_<=B/\0<=st
structure bc (p:Nat) (M M':Mem):Prop where
 len:M.length<=M'.length
 at':∀k,k<M.length->k≠p->M'[k]?=M[k]?
def bc.refl:bc p M M:={OZ _,λ_ _ _=>rfl}
def bc.trans (a:bc p M M1)(b:bc p M1 M2):bc p M M2:={Pa a.len b.len,λk hk n=>(b.at' k (Pj hk a.len) n).trans (a.at' k hk n)}
def bc.set:bc p M (M.set p ds):={`s,λk _ n=>O5 (Qk n)}
def bc.app:bc p M (M++X):={`s,λk hk _=>O4 hk}
def bc.get (h:bc p M M')(e:M[k]?=some ds)(n:k≠p):M'[k]?=some ds:=by rw[h.at' k (OV.mp e).1 n];exact e
def aN.lt (h:aN M p B):p<M.length:=by obtain⟨_,_,_,_,e,_⟩:=h.ex;exact(OV.mp e).1
def aN.app (h:aN M p B):aN (M++X) p B:=by
 obtain⟨c,j,a,st,e1,e2,r⟩:=h.ex;exact{c,j,a,st,by rw[O4 (OV.mp e1).1];exact e1,by rw[O4 (OV.mp e2).1];exact e2,r}
def aN.mono (h:aN M p B)(E:B<=B'):aN M p B':=by
 obtain⟨c,j,a,st,e1,e2,u,v,z,y⟩:=h.ex;exact{c,j,a,st,e1,e2,u,v,`a,y}
def aN.setq (h:aN M p B)(E:p<q):aN (M.set q ds) p B:=by
 obtain⟨c,j,a,st,e1,e2,u,v,y,z⟩:=h.ex;exact{c,j,a,st,by rw[O5 `a];exact e1,by rw[O5 `a];exact e2,u,v,y,z}
def bc.setq (h:bc p M M')(j:M.length<=q):bc p M (M'.set q ds):={by simpa using h.len,λk hk n=>by rw[O5 `a];exact h.at' k hk n}
def zo {a b A B:Int}(h1:0<=a)(h2:a<=A)(h3:0<=b)(h4:b<=B):0<=a*b/\a*b<=A*B:=
 {Int.mul_nonneg h1 h3,Int.mul_le_mul h2 h4 h3 (Int.le_trans h1 h2)}
noncomputable def mz:List Int:=[2147483629,2147483587,2147483579,2147483563,2147483549,2147483543,2147483497,2147483489,2147483477,2147483423,2147483399,2147483353,2147483323]
def iF:List D:=mz.map D.int
def yX:∀q∈mz,0<q/\q<2147483648:=`d
def nA (j:Int)(M:Mem):∃q:Int,da (.lst iF) (.int (j % 13)) M=some (.int q)/\0<q/\q<2147483648:=by
 have h1:0<=j % 13:=QS _ `d
 have h2:j % 13<13:=QR _ `d
 generalize j % 13=i at h1 h2;obtain⟨k,rfl⟩:=Q1 h1;have hk:=Int.ofNat_lt.mp h2;refine{mz[k],?_,yX _ (QZ hk)};show(b6 iF.length (k:Int)).bind (λj=>iF[j]?)=_;rw[eM (n:=iF.length) hk];show(mz.map D.int)[k]?=_;rw[Pt,Pd hk];rfl
section
variable{P:Nat->Option Df}(h:HasP0 P){M:Mem}
include h
omit h in
theorem fH {x y:Int}(j:a Z M=.ok (.int x) M)(u:b Z M=.ok (.int y) M):ai m .add a b Z M=.ok (.int (x+y)) M:=by
 unfold ai;rw[j];show(b Z M).bind _=_;rw[u];rfl
omit h in
theorem nJ {x y:Int}(j:a Z M=.ok (.int x) M)(u:b Z M=.ok (.int y) M)(c:(-(2^64)<x/\x<2^64)\/(-(2^64)<y/\y<2^64)):ai m .mul a b Z M=.ok (.int (x*y)) M:=by
 unfold ai;rw[j];show(b Z M).bind _=_;rw[u];exact if_pos c
omit h in
theorem jG {x y:Int}(j:a Z M=.ok (.int x) M)(u:b Z M=.ok (.int y) M)(c:0<y):ai m .mod a b Z M=.ok (.int (x % y)) M:=by
 unfold ai;rw[j];show(b Z M).bind _=_;rw[u];exact if_pos c
omit h in
theorem Bp {x y:Int}(j:a Z M=.ok (.int x) M)(u:b Z M=.ok (.int y) M)(c:0<=y/\y<=1000000)(d:x.natAbs<2^64):ai m .pow a b Z M=.ok (.int (x^y.toNat)) M:=by
 unfold ai;rw[j];show(b Z M).bind _=_;rw[u];exact if_pos ⟨c.1,c.2,d⟩
omit h in
theorem nB {x q:Int}(hi:Z[i]?.getD none=some (.lst iF))(j:a Z M=.ok (.int x) M)(e:da (.lst iF) (.int (x % 13)) M=some (.int q)):aS (aa i) (ai false .mod a (gI 13)) Z M=.ok (.int q) M:=by
 unfold aS;rw[az hi];show(ai false .mod a _ Z M).bind _=_;rw[jG j rfl `d];show bL M _=_;rw[e];rfl
theorem yy {x a:Int}(n:Nat)(R:0<=a)(h1:a<=1000000):ae (ag P (n+1) 28 [.int x,.int a] M) λd M'=>M'=M/\∃v:Int,d=.int v/\0<=v:=by
 refine aF h.law_spread rfl ?_;refine cf rfl (λe=>?_) λe=>?_
 ·exact{rfl,x,rfl,Int.le_trans `d (of_decide_eq_true e)}
 clear e;refine bo (bJ rfl) (bo (bJ rfl) ?_);obtain⟨S,e1,p1,p2⟩:=nA a M;obtain⟨U,e2,u,_⟩:=nA (a+5) M;obtain⟨q3,Q,J,_⟩:=nA (a+7) M;have y:∀{z c:Int},0<=z->z<=c->c<2^64->z.natAbs<2^64:=λX Y L=>`a
 have lt:∀{z c:Int},0<=z->z<=c->c<2^64->-(2^64)<z/\z<2^64:=λX Y L=>`a
 have r1:=QS x (show(1000000007:Int)≠0 by decide)
 have r2:=QR x (show(0:Int)<1000000007 by decide)
 obtain⟨m1,m2⟩:=zo r1 (Int.le_of_lt r2) (show 0<=2*a+69069 by omega) (show 2*a+69069<=2069069 by omega)
 refine bo (bJ (jG (Bp (fH (fH (nJ (jG (az rfl) rfl `d) (fH (nJ rfl (az rfl) (.inl `d)) rfl) (.inl (lt r1 (Int.le_of_lt r2) `d))) (nJ (az rfl) rfl (.inl (lt R h1 `d)))) rfl) rfl `d (y (c:=10000000000000000000) `a `a `d)) (nB rfl (az rfl) e1) p1)) ?_
 generalize (x % 1000000007*(2*a+69069)+a*40503+977)^(3:Int).toNat=B;have j:=QS B (Int.ne_of_gt p1);have F:=QR B p1;generalize B % S=one at j F;have H:=Int.le_of_lt (Int.lt_trans F p2);obtain⟨m3,m4⟩:=zo j H (show 0<=a+3 by omega) (show a+3<=1000003 by omega)
 refine bo (bJ (jG (Bp (fH (fH (nJ (az rfl) (fH (az rfl) rfl) (.inl (lt j H `d))) (jG (az rfl) rfl `d)) rfl) rfl `d (y (c:=10000000000000000000) `a `a `d)) (nB rfl (fH (az rfl) rfl) e2) u)) ?_
 generalize (one*(a+3)+x % 65537+5)^(5:Int).toNat=E;have I:=QS E (Int.ne_of_gt u);have O:=QR E u;generalize E % U=two at I O;refine bo (bJ (jG (Bp (fH (fH (az rfl) (jG (az rfl) rfl `d)) (az rfl)) rfl `d (y (c:=10000000000) `a `a `d)) (nB rfl (fH (az rfl) rfl) Q) J)) ?_
 generalize (two+one % 1009+a)^(3:Int).toNat=W;have d1:=QS W (Int.ne_of_gt J);refine gz (fH (nJ (fH (nJ (az rfl) rfl (.inr `d)) (az rfl)) rfl (.inr `d)) (az rfl)) {rfl,_,rfl,?_}
 exact Int.add_nonneg (Int.mul_nonneg (Int.add_nonneg (Int.mul_nonneg j `d) I) `d) d1
omit h in
theorem N8:b6 3 2=some 2:=rfl
omit h in
theorem p6 {l:List Int}{i:Int}(u:0<=i)(h1:i<l.length):∃x,((b6 l.length i).bind λj=>Option.map D.int l[j]?)=some (.int x):=by
 obtain⟨k,rfl⟩:=Q1 u;have hk:k<l.length:=`a
 refine{l[k],?_};rw[eM hk];simp[hk]
def nk:GS:=#v[aw (.one 4) (ai false .mod (aS (aa 0) (gI 2)) (aa 1)),fA (aa 0) (gI 2) (ai false .fdiv (aS (aa 0) (gI 2)) (aa 1)),aD (aa 4)]
def uY (c:Call):GS:=#v[fA (aa 0) (gI 1) (ai false .add (aa 2) (gI 1)),fA (aa 0) (gI 2) (ah 28 c #[aa 3,aa 2])]
omit h in
theorem LH {x y:Int}(j:a Z M=.ok (.int x) M)(u:b Z M=.ok (.int y) M)(c:0<y/\y<1073741824):ai m .fdiv a b Z M=.ok (.int (x / y)) M:=by
 unfold ai;rw[j];show(b Z M).bind _=_;rw[u];exact if_pos c
omit h in
theorem dj (j:a Z M=.ok x M)(u:b Z M=.ok y M)(e:da x y M=some d):aS a b Z M=.ok d M:=by
 unfold aS;rw[j];show(b Z M).bind _=_;rw[u];show bL M _=_;rw[e];rfl
omit h in
theorem Jm (e:M[p]?=some [c0,c1,c2]):da (.cell p) (.int 0) M=some c0/\da (.cell p) (.int 1) M=some c1/\da (.cell p) (.int 2) M=some c2:=by
 refine{?_,?_,?_}<;>(show(M[p]?).bind _=_;rw[e];rfl)
omit h in
theorem sQ {n:Int}(hd:d Z M=.ok z M')(u:a Z M'=.ok (.cell p) M')(v:b Z M'=.ok (.int n) M')(e:M'[p]?=some ds)(hi:b6 ds.length n=some i)(h:ae (rest Z (M'.set p (ds.set i z))) kf):ae (aT (fA a b d) rest Z M) kf:=by
 simp only[aM];unfold fA;rw[hd];show ae ((a Z M').bind _) _;rw[u];show ae ((b Z M').bind _) _;rw[v];show ae (match M'[p]? with|some ds=>(match b6 ds.length n with|some j=>Res.ok (Fl.next Z) (M'.set p (ds.set j z))|none=>.bad)|none=>.bad) _
 rw[e];show ae (match b6 ds.length n with|some j=>Res.ok (Fl.next Z) (M'.set p (ds.set j z))|none=>.bad) _
 rw[hi];exact h
omit h in
theorem Jn (j:t Z M=.ok b M)(h1:b=true->ae (A Z M) (ic rest kf))(h2:b=false->ae (B Z M) (ic rest kf)):ae (aT (aL t A B) rest Z M) kf:=by
 simp only[aM,jO];rw[j];cases b with
 |true=>exact h1 rfl
 |false=>exact h2 rfl
omit h in
theorem qA {j:List Int}{a st:Int}(e1:M1[p]?=some [.cell c,.int a,.int st])(e2:M1[c]?=some (j.map D.int))(lt:c<p)(a0:0<=a)(u:a<=(B+1:Nat))(H:0<=st)(k:bc p M M1)
 (z:0<many) (h1:many<=10000000):ae (nk [some (.cell p),some (nD many),x,y,none] M1) (t7 λd M'=>∃v:Nat,d=nD v/\v<many/\aN M' p (B+1)/\bc p M M'):=by
 have E:p<M1.length:=(OV.mp e1).1;have b0:=Int.ofNat_lt.mpr z;have r1:=QS st (Int.ne_of_gt b0);have r2:=QR st b0;refine bo (bJ (jG (dj (az rfl) rfl (Jm e1).2.2) (az rfl) b0)) (sQ (LH (dj (az rfl) rfl (Jm e1).2.2) (az rfl) {b0,`a}) (az rfl) rfl e1 rfl (gz (az rfl) ?_))
 obtain⟨v,F⟩:=Q1 r1;refine{v,congrArg D.int F,`a,{c,j,a,st / many,Py E,?_,lt,a0,u,Int.ediv_nonneg H (Int.le_of_lt b0)},k.trans bc.set}
 rw[O5 (PX lt)];exact e2
theorem u6 (n:Nat){p B many:Nat}(R:aN M p B)(hB:B<=1000000)(I:0<many)(h1:many<=10000000):ae (ag P (n+2) 31 [.cell p,nD many] M) λd M'=>∃v:Nat,d=nD v/\v<many/\aN M' p (B+1)/\bc p M M':=by
 obtain⟨c,u,a,st,e1,e2,lt,a0,Y,W⟩:=R.ex;have z:p<M.length:=(OV.mp e1).1;obtain⟨H,S,U⟩:=Jm e1;refine aF h.law_take rfl ?_;show ae (aT (aL _ (aT _ (aT _ (aT _ (uY (ag P (n+1)))))) _) nk [some (.cell p),some (nD many),none,none,none] M) _;have y:∀(x:Int),ae (uY (ag P (n+1)) [some (.cell p),some (nD many),some (.int a),some (.int x),none] M) (ic nk (t7 λd M'=>∃v:Nat,d=nD v/\v<many/\aN M' p (B+1)/\bc p M M')):=by
  intro x;refine sQ (fH (az rfl) rfl) (az rfl) rfl e1 rfl ?_;obtain⟨_,_,Q,rfl,v,rfl,X⟩:=ig.mp (yy h n a0 `a)
  refine sQ ((bg (af (az rfl) (af (az rfl) rfl))).trans Q) (az rfl) rfl (Py z) rfl ?_;have ne:=PX lt;exact qA (Py (by rw[List.length_set];exact z)) (by rw[O5 ne,O5 ne];exact e2) lt `a `a X (bc.set.trans bc.set) I h1
 have len:aA .len #[aS (aa 0) (gI 0)] [some (.cell p),some (nD many),some (.int a),some (.int 0),none] M=.ok (.int (u.length:Nat)) M:=by
  refine ak ?_;simp only[dH];rw[af (dj (az rfl) rfl H) rfl,bS];exact tJ.mpr {_,e2,by rw[OY],rfl}
 refine cf (b:=decide (st<(many:Int))) (cZ (ak ?_)) (λJ=>?_) λJ=>?_
 ·simp only[eJ];rw[dj (az rfl) rfl U,bS,az rfl,bS];exact{_,rfl,rfl,rfl}
 ·refine bo (bJ (dj (az rfl) rfl S)) (bo (bJ rfl) ?_);show ae (aT _ _ [some (.cell p),some (nD many),some (.int a),some (.int 0),none] M) _;have E:∀{i:Int}{x:D},((b6 u.length i).bind λj=>Option.map D.int u[j]?)=some x->da (.cell c) (.int i) M=some x:=λ{i x} ex=>by
   show(M[c]?).bind _=_;rw[e2];show((b6 (u.map D.int).length i).bind λj=>(u.map D.int)[j]?)=_;simp only[OY,Pt];exact ex
  refine Jn (b:=decide (a<(u.length:Int))) (cZ (ak ?_)) (λL=>?_) λ_=>?_
  ·simp only[eJ];rw[az rfl,bS,len,bS];exact{_,rfl,rfl,rfl}
  ·obtain⟨x,ex⟩:=p6 a0 (of_decide_eq_true L);exact bo (bJ (dj (dj (az rfl) rfl H) (az rfl) (E ex))) (y x)
  ·refine cf (b:=decide ((0:Int)<(u.length:Int))) (cZ (ak ?_)) (λO=>?_) λ_=>y 0
   ·simp only[eJ,fN];rw[len,bS];exact{_,rfl,rfl,rfl}
   ·have F:=of_decide_eq_true O;obtain⟨x,ex⟩:=p6 (QS (a*5+3) (Int.ne_of_gt F)) (QR _ F);exact bo (bJ (jG (dj (dj (az rfl) rfl H) (jG (fH (nJ (az rfl) rfl (.inr `d)) rfl) len F) (E ex)) (fH rfl (az rfl)) (Int.lt_of_lt_of_le `d (Int.le_add_of_nonneg_right a0)))) (y _)
 ·exact qA e1 e2 lt a0 `a W .refl I h1
end
noncomputable def aW.withC:aW->Nat->aW
 |.turn a t _,c=>.turn a t c
 |.join a o t _,c=>.join a o t c
 |.move a o _,c=>.move a o c
 |.put a x _,c=>.put a x c
def Av {w p c:Nat}{d:aW}(h:bZ w p d)(u:gn c):bZ w p (d.withC c):=by
 cases d with
 |turn=>exact⟨h.1,h.2.1,u⟩
 |join=>exact⟨h.1,h.2.1,h.2.2.1,u⟩
 |move=>exact⟨h.1,h.2.1,u⟩
 |put=>exact⟨h.1,h.2.1,u⟩
def v5 {w p:Nat}{d:aW}(h:bZ w p d):gn d.cost:=by
 cases d with
 |turn=>exact h.2.2
 |join=>exact h.2.2.2
 |move=>exact h.2.2
 |put=>exact h.2.2
def B9 {d:aW}{c:Nat}{M:Mem}{k:D->Mem->Prop}(hk:k (d.withC c).d M):ae (cQ false d.d .non (.int (-1)) M) λx M=>ae (gg false .add x (.tup [nD c]) M) k:=by
 cases d<;>(simp[aW.d,cQ,aK,cut];exact{`d,hk})
def A3 (n:Nat)(d:aW):aj (n+3) d.d=true:=by
 have v:∀(n:Nat) (l:List Nat),(l.map nD).all (aj n)=true:=λn l=>by
  rw[Pk];intro x u;obtain⟨i,_,rfl⟩:=Pf.mp u;cases n<;>rfl
 cases d with
 |turn a t c=>simp[aW.d,aj,av,nD];decide +kernel
 |join a o t c=>simp[aW.d,aj,nD,av];decide +kernel
 |move a o c=>simp[aW.d,aj,nD];decide +kernel
 |put a x c=>simp[aW.d,aj,nD];decide +kernel
def ne_nil {M:Mem}{q:Nat}{ds:List aW}(e:M[q]?=some (ds.map aW.d)):bB .ne (.cell q) (.lst []) M=some (!ds.isEmpty):=by
 have hp:(ds.map aW.d).all (aj 63)=true:=by
  rw[Pk];intro x v;obtain⟨d,_,rfl⟩:=Pf.mp v;exact A3 60 d
 have u:view M (.cell q)=.lst (ds.map aW.d):=by simp[view,e]
 have h1:=hp;refine mO (by rw[u];exact h1) rfl ?_
 rw[u];cases ds<;>rfl
@[simp] theorem IU {m:Bool}{x:List D}{j:Int}{M:Mem}{k:D->Mem->Prop}:ae (gg m .mul (.tup x) (.int j) M) k↔(x.length*j.toNat<=sz/\-(2^63)<=j/\j<2^63)/\k (.tup (List.replicate j.toNat x).flatten) M:=oF
@[simp] theorem IV {m:Bool}{x:List D}{j:Int}{M:Mem}{k:D->Mem->Prop}:ae (gg m .mul (.lst x) (.int j) M) k↔(x.length*j.toNat<=sz/\-(2^63)<=j/\j<2^63)/\ae (a7 m (List.replicate j.toNat x).flatten M) k:=oF
def sF {xs:List D}{a:Nat}{M:Mem}{k:D->Mem->Prop}:ae (cQ false (.lst xs) .non (.int a) M) k↔(xs.take a).length<=sz/\k (.lst (xs.take a)) M:=by
 have e:cut xs 0 (min a xs.length)=xs.take a:=by
  unfold cut;rcases Nat.le_total a xs.length with h|h
  ·rw[Q5 h];simp
  ·rw[Nat.min_eq_right h];simp[Pw h]
 show ae (match aK xs.length 0 D.non,aK xs.length xs.length (.int a) with|some l,some h=>a7 false (cut xs l h) M|_,_=>.bad) k↔_
 have e2:aK xs.length xs.length (.int a)=some (min a xs.length):=by
  show some _=_;rw[if_neg `a];simp
 rw[e2];show ae (a7 false (cut xs 0 (min a xs.length)) M) k↔_;rw[e,bT]
def Bb {xs:List D}{a:Nat}{M:Mem}{k:D->Mem->Prop}:ae (cQ false (.lst xs) (.int a) .non M) k↔(xs.drop a).length<=sz/\k (.lst (xs.drop a)) M:=by
 have e:cut xs (min a xs.length) xs.length=xs.drop a:=by
  unfold cut;rcases Nat.le_total a xs.length with h|h
  ·rw[Q5 h,Pw `s]
  ·rw[Nat.min_eq_right h];simp[List.drop_eq_nil_of_le h]
 show ae (match aK xs.length 0 (.int a),aK xs.length xs.length D.non with|some l,some h=>a7 false (cut xs l h) M|_,_=>.bad) k↔_
 have e2:aK xs.length 0 (.int a)=some (min a xs.length):=by
  show some _=_;rw[if_neg `a];simp
 rw[e2];show ae (a7 false (cut xs (min a xs.length) xs.length) M) k↔_;rw[e,bT]
def uh {w:Nat}{ge:GE}{Z:Env}{M:Mem}{u:List D->Mem->Prop}(f:Nat->Nat)(v:w<=100)(hf:∀k,k<w->ge (some (.int (k:Int))::Z) M=.ok (nD (f k)) M)(hk:u (((List.range w).map f).map nD) M) :
 ae (c6 (dr (.one 0) (cy ge) (none::Z)) (λ_=>some ((List.range w).map λ(k:Nat)=>D.int (k:Int))) [] M) u:=by
 refine g8 (λd=>match d with|.int i=>nD (f i.toNat)|_=>.non) (aG `o) rfl (λd hd=>?_) ?_
 ·obtain⟨k,hk,rfl⟩:=Pf.mp hd;exact{_,rfl,hf k (QP.mp hk)}
 ·simpa[Function.comp_def] using hk
def u1 {w:Nat}{f:Nat->Nat}(hf:∀k,k<w->f k<w):iz w ((List.range w).map f):={`s,λx u=>by
 obtain⟨k,hk,rfl⟩:=Pf.mp u;exact hf k (QP.mp hk)}
section
variable{P:Nat->Option Df}(h:HasP0 P){M:Mem}
include h
theorem EX (n:Nat){p B:Nat}(hp:aN M p B):ae (ag P (n+1) 30 [.cell p] M) λd M'=>d=.cell p/\aN M' p B/\bc p M M':=by
 obtain⟨c,u,a,st,e1,e2,lt,a0,y,z⟩:=hp.ex;have ne:=Pu lt;have v:p<M.length:=(OV.mp e1).1;refine aF h.law_anew rfl ?_;simp[jI,e1,N8];refine{{c,u,a,0,by simp[v],?_,lt,a0,y,`a},bc.set}
 rw[O5 (Qk ne)];exact e2
theorem tk (n:Nat){p B many:Nat}{k:D->Mem->Prop}(hp:aN M p B)(hB:B<=1000000)(h0:0<many)(h1:many<=10000000)(hk:∀(v:Nat) (M':Mem),v<many->aN M' p (B+1)->bc p M M'->k (nD v) M'):ae (ag P (n+2) 31 [.cell p,nD many] M) k:=
 aQ (u6 h n hp hB h0 h1) λd M' ⟨v,e,z,y,u⟩=>by subst e;exact hk v M' z y u
end
def bd {B c k m:Nat}(h:B<=c)(e:c+k<=m):B+k<=m:=Pa (Nat.add_le_add_right h k) e
def wY {B k m:Nat}(e:k<=m):B+k<=B+m:=Nat.add_le_add_left e B
def wW {Z:Env}{M:Mem}{j v c:Nat}(h:Z[j]?.getD none=some (nD v)):(aq (aH .lt (aa j) (gC (.int (c:Int)))):GT) Z M=.ok (decide (v<c)) M:=by
 refine fM ?_;simp only[fQ,eJ,bp,fN];refine{_,h,_,rfl,_,rfl,?_,trivial};simp
def jv {Z:Env}{M:Mem}{j v c:Nat}(h:Z[j]?.getD none=some (nD v)):(aq (aH .eq (aa j) (gC (.int (c:Int)))):GT) Z M=.ok ((v:Int)==(c:Int)) M:=by
 refine fM ?_;simp only[fQ,eJ,bp,fN];exact{_,h,_,rfl,_,rfl,rfl,trivial}
section
variable{Z:Env}{M:Mem}{g a:GE}{rest:GS}{kf:Fl->Mem->Prop}
section
variable{P:Nat->Option Df}(hp_:HasP0 P)(n:Nat){i j p B many:Nat}(hj:Z[j]?.getD none=some (.cell p))(hg:g Z M=.ok (nD many) M)(hp:aN M p B)(hB:B<=1000000)(h0:0<many)(h1:many<=10000000)
include hp_ hj hg hp hB h0 h1
theorem f6:ae (ah 31 (ag P (n+2)) #[aa j,g] Z M) λd M'=>∃v:Nat,d=nD v/\v<many/\aN M' p (B+1)/\bc p M M':=by
 rw[bg (af (az hj) (af hg rfl))];exact u6 hp_ n hp hB h0 h1
theorem gQ (hk:∀(v:Nat) (M':Mem),v<many->aN M' p (B+1)->bc p M M'->ae (rest (Z.set i (some (nD v))) M') kf):ae (aT (aw (.one i) (ah 31 (ag P (n+2)) #[aa j,g])) rest Z M) kf:=by
 refine cS (f6 hp_ n hj hg hp hB h0 h1) ?_;rintro x M' ⟨v,rfl,a,b,c⟩;exact hk v M' a b c
end
end
section
variable{Z:Env}{M:Mem}{k:D->Mem->Prop}
def bM {e:GE}{K:Fl->Mem->Prop}(h:ae (e Z M) λx M=>K (.ret x) M):ae (#v[aD e] Z M) K:=by
 simp only[aM,eL];exact h
def zp {e:GE}{j v w:Nat}(he:e Z M=.ok (nD v) M)(hj:Z[j]?.getD none=some (nD w))(u:0<w):ai false .mod e (aa j) Z M=.ok (nD (v % w)) M:=by
 unfold ai;rw[he];show(aa j Z M).bind _=_;rw[az hj];show(if (0:Int)<(w:Int) then Res.ok (D.int ((v:Int) % (w:Int))) M else .bad)=_;rw[if_pos `a]
 rfl
def qp {e f:GE}{v w:Nat}(he:e Z M=.ok (nD v) M)(hf:f Z M=.ok (nD w) M):ai false .add e f Z M=.ok (nD (v+w)) M:=by
 unfold ai;rw[he];show(f Z M).bind _=_;rw[hf];rfl
def Hr {e:GE}{v c:Nat}(he:e Z M=.ok (nD v) M)(u:c<=v):ai false .sub e (gC (.int (c:Int))) Z M=.ok (nD (v-c)) M:=by
 unfold ai;rw[he];show Res.ok (D.int ((v:Int)-(c:Int))) M=_;rw[<- Int.ofNat_sub u]
end
section
variable{P:Nat->Option Df}(h:HasP P){M:Mem}
include h
theorem yx (n:Nat){p B w:Nat}(hp:aN M p B)(hB:B<=900000)(w2:2<=w)(w4:w<=4):ae (ag P (n+3) 32 [.cell p,nD w] M) λd M'=>∃t,d=av t/\iz w t/\aN M' p (B+7)/\bc p M M':=by
 have R:0<w:=Pj `d w2
 have X:w<=10000000:=Pa w4 (P9 rfl);refine aF h.law_tab rfl ?_;show ae (iy (ag P (n+2)) [some (.cell p),some (nD w),none,none,none,none] M) _;unfold iy;refine gQ h n rfl rfl hp (Pa hB `d) `d `d λkind M1 hk p1 k1=>?_
 refine gQ h n rfl rfl p1 (bd hB `d) R X λu M2 W p2 k2=>?_
 refine gQ h n rfl rfl p2 (bd (k:=2) hB `d) R X λE O ho Y k3=>?_
 have Q:=(k1.trans k2).trans k3;have J:∀(l:List Nat) (M':Mem),iz w l->aN M' p (B+7)->bc p M M'->(l.map nD).length<=sz/\∃t,D.tup (l.map nD)=av t/\iz w t/\aN M' p (B+7)/\bc p M M':=λl M' hl F H=>{aG (by rw[OY,hl.1];omega),l,rfl,hl,F,H}
 have S:aN O p (B+7):=Y.mono (wY (k:=3) `d)
 show ae (aT _ _ [some (.cell p),some (nD w),some (nD kind),some (nD u),some (nD E),none] O) _;refine cf (wW rfl) (λ_=>?_) λ_=>?_
 ·simp only[aM,eL,dH,bO,cJ,g6,gP,bp];refine{_,rfl,_,rfl,{`a,`a},?_}
  refine comp_map (λi I M'=>∃t:List Nat,I=t.map nD/\(∀x∈t,x<w)/\aN M' p (B+3+i)/\bc p M M') (aG `o) (λ_ _ _ _=>rfl) {[],rfl,(λ_ L=>nomatch L),Y,Q} ?_ ?_
  ·rintro i d I M' hd _ ⟨t,rfl,U,F,H⟩;have hi:i<w:=by
    have:=(OV.mp hd).1;simpa using this
   refine{_,rfl,aQ (f6 h n rfl rfl F `a R X) ?_}
   rintro _ M4 ⟨v,rfl,hv,p4,k4⟩;refine{t++[v],by rw[Pn];rfl,λx L=>?_,p4,H.trans k4}
   rcases PL.mp L with z|z
   ·exact U x z
   ·rw[Pr.mp z];exact hv
  ·rintro I M' hl ⟨t,rfl,U,F,H⟩;simp only[OY,Ql] at hl F;exact bT.mpr (J t M' ⟨hl,U⟩ (F.mono `a) H)
 refine cf (jv rfl) (λ_=>?_) λ_=>?_
 ·simp only[aM,eL,dH,bO,cJ,g6,gP,bp];refine{_,rfl,_,rfl,{`a,`a},?_}
  exact uh (λk=>(k+1+u) % w) `a (λk hk=>zp (qp (qp (az rfl) rfl) (az rfl)) rfl R) (bT.mpr (J _ O (u1 λk _=>Nat.mod_lt _ R) S Q))
 refine cf (jv rfl) (λ_=>?_) λ_=>?_
 ·simp only[aM,eL,dH,bO,cJ,g6,gP,bp];refine{_,rfl,_,rfl,{`a,`a},?_}
  refine uh (λk=>if k=u then E else k) `a (λk hk=>?_) (bT.mpr (J _ O (u1 λk hk=>by split<;>assumption) S Q))
  have e:(aq (aH .eq (aa 0) (aa 4)):GT) [some (.int (k:Int)),some (.cell p),some (nD w),some (nD kind),some (nD u),some (nD E),none] O=.ok ((k:Int)==(u:Int)) O:=rfl;by_cases ck:k=u
  ·rw[if_pos ck];exact iI (k:=true) (e.trans (by rw[ck,beq_self_eq_true])) (λ_=>rfl) (λz=>nomatch z)
  ·rw[if_neg ck];exact iI (k:=false) (e.trans (by rw[Qf.mpr `a])) (λz=>nomatch z) (λ_=>rfl)
 refine cf (jv rfl) (λ_=>bM ?_) λ_=>?_
 ·simp only[jw,e9,bO,cJ,bp];refine{_,rfl,aG (n:=1) `d,_,rfl,IU.mpr {{aG `o,`a,`a},List.replicate w u,?_,{List.length_replicate,λx L=>by rw[List.eq_of_mem_replicate L];exact W},S,Q}}
  simp[av,nD]
 ·simp only[aM,oj,F1,bp,HA,eL,dH,bO,cJ,bC];simp;refine{`a,aG `a,u,eM W,E,eM ho,((List.range w).set u E).set E u,?_,{`s,λx L=>?_},S.app,Q.trans bc.app}
  ·simp[av,nD,List.map_set]
  ·rcases List.mem_or_eq_of_mem_set L with z|rfl
   ·rcases List.mem_or_eq_of_mem_set z with y|rfl
    ·exact QP.mp y
    ·exact ho
   ·exact W
theorem A9 (n:Nat){p B w pl:Nat}(hp:aN M p B)(hB:B<=800000)(w2:2<=w)(w4:w<=4)(p1:1<=pl)(p2:pl<=2):ae (ag P (n+4) 33 [.cell p,nD w,nD pl] M) λd M'=>∃e:aW,d=e.d/\bZ w pl e/\aN M' p (B+40)/\bc p M M':=by
 have X:pl<=10000000:=Pa p2 (P9 rfl);refine aF h.law_deed rfl ?_;show ae (gO (ag P (n+3)) [some (.cell p),some (nD w),some (nD pl),none,none,none,none] M) _;unfold gO;refine gQ h (n+1) rfl rfl hp (Pa hB `d) `d `d λkind Y hk q1 k1=>?_
 refine cS (k:=λd M'=>∃v:Nat,d=nD (1+v)/\v<3/\aN M' p (B+2)/\bc p Y M') ?_ ?_
 ·rw[jw];simp only[fN];refine aQ (f6 h (n+1) rfl rfl q1 (bd hB `d) `d `d) ?_
  rintro _ M2 ⟨v,rfl,J,q,kk⟩;exact uI.mpr {v,by show D.int (1+(v:Int))=D.int ((1+v:Nat):Int);rw[Int.natCast_add];rfl,J,q,kk}
 rintro _ M2 ⟨price,rfl,hc,q2,k2⟩;refine gQ h (n+1) rfl rfl q2 (bd hB `d) p1 X λat_ M3 O q3 k3=>?_
 refine gQ h (n+1) rfl rfl q3 (bd (k:=3) hB `d) p1 X λu F ho Q U=>?_
 have L:=((k1.trans k2).trans k3).trans U;have co:gn (1+price):={`a,`a}
 have W:aN F p (B+40):=Q.mono (wY (k:=4) `d)
 show ae (aT _ _ [some (.cell p),some (nD w),some (nD pl),some (nD kind),some (nD (1+price)),some (nD at_),some (nD u)] F) _;refine cf (wW rfl) (λ_=>bM ?_) λ_=>?_
 ·simp only[e9,bO,cJ,fN,bp,zR];refine{_,rfl,_,rfl,_,rfl,aQ (yx h n Q (bd (k:=4) hB `d) w2 w4) λd M' ⟨t,e,I,y,E⟩=>{_,rfl,aG (n:=4) `d,.turn at_ t (1+price),?_,⟨O,I,co⟩,y.mono (wY (k:=11) `d),L.trans E}}
  subst e;rfl
 refine cf (wW rfl) (λ_=>bM ?_) λ_=>?_
 ·obtain⟨o,eo,R⟩:∃o:Nat,fZ (aq (aH .eq (aa 3) (gI 3))) (ai false .mod (ai false .add (aa 5) (gI 1)) (aa 2)) (aa 6) [some (.cell p),some (nD w),some (nD pl),some (nD kind),some (nD (1+price)),some (nD at_),some (nD u)] F=.ok (nD o) F/\o<pl:=by
   have e:(aq (aH .eq (aa 3) (gI 3)):GT) [some (.cell p),some (nD w),some (nD pl),some (nD kind),some (nD (1+price)),some (nD at_),some (nD u)] F=.ok ((kind:Int)==3) F:=jv rfl;cases q:(kind:Int)==3 with
   |true=>rw[q] at e;exact{(at_+1) % pl,iI e (λ_=>zp (qp (az rfl) rfl) rfl p1) (λz=>nomatch z),Nat.mod_lt _ p1}
   |false=>rw[q] at e;exact{u,iI e (λz=>nomatch z) (λ_=>az rfl),ho}
  simp only[e9,bO,cJ,fN,bp];refine{_,rfl,?_};rw[eo,bS];exact{_,rfl,aG (n:=4) `d,.move at_ o (1+price),rfl,⟨O,R,co⟩,W,L}
 refine cf (jv rfl) (λ_=>bM ?_) λ_=>?_
 ·simp only[e9,bO,cJ,fN];show ae (ag P (n+3) 31 [.cell p,nD w] F) _;refine tk h (n+1) Q (bd (k:=4) hB `d) (Pj `d w2) (Pa w4 (P9 rfl)) λv M5 J q5 k5=>?_
  exact{aG (n:=4) `d,.put at_ v (1+price),rfl,⟨O,J,co⟩,q5.mono (wY (k:=5) `d),L.trans k5}
 ·simp only[aM,eL,e9,bO,cJ,fN,dH,g6,gP,bp];refine{_,rfl,_,rfl,_,rfl,_,rfl,{`a,`a},?_}
  refine comp_map (λi H M'=>∃t:List (List Nat),H=t.map av/\(∀x∈t,iz w x)/\aN M' p (B+4+i*7)/\bc p M M') (aG `o) (λ_ _ _ _=>rfl) {[],rfl,(λ_ S=>nomatch S),Q,L} ?_ ?_
  ·rintro i d H M' hd _ ⟨t,rfl,I,y,E⟩;have hi:i<w:=by
    have:=(OV.mp hd).1;simpa using this
   refine{_,rfl,?_};rw[bg (af (az rfl) (af (az rfl) rfl))];refine aQ (yx h n y `a w2 w4) ?_
   rintro _ F ⟨v,rfl,J,p4,U⟩;refine{t++[v],by rw[Pn];rfl,λx S=>?_,p4.mono `a,E.trans U}
   rcases PL.mp S with z|z
   ·exact I x z
   ·rw[Pr.mp z];exact J
  ·rintro H M' hl ⟨t,rfl,I,y,E⟩;simp only[OY,Ql] at hl y;exact bT.mpr {aG (by rw[OY];omega),_,rfl,aG (n:=5) `d,.join at_ u t (1+price),rfl,{O,ho,⟨hl,I⟩,co},y.mono `a,E}
theorem wA (n:Nat){p B W Pl mo:Nat}(hp:aN M p B)(hB:B<=700000)(W2:2<=W)(W4:W<=4)(P1:1<=Pl)(P2:Pl<=2)(m1:1<=mo)(m6:mo<=6):ae (ag P (n+5) 34 [.cell p,nD W,nD Pl,nD mo] M) λd M'=>∃m:aJ,d=m.d/\aC m/\m.words<=W/\m.places<=Pl/\m.deeds.length<=mo/\aN M' p (B+300)/\bc p M M':=by
 refine aF h.law_machine rfl ?_;show ae (fb (ag P (n+4)) [some (.cell p),some (nD W),some (nD Pl),some (nD mo),none,none,none,none] M) _;unfold fb;have plus:∀{Z:Env}{M:Mem}{g:GE}{B c many:Nat}{rest:GS}{K:Fl->Mem->Prop}{i:Nat},Z[0]?.getD none=some (.cell p)->g Z M=.ok (nD many) M->aN M p B->B<=1000000->0<many->many<=10000000->(∀(v:Nat) (M':Mem),v<many->aN M' p (B+1)->bc p M M'->ae (rest (Z.set i (some (nD (c+v)))) M') K)->ae (aT (aw (.one i) (ai false .add (gC (.int (c:Int))) (ah 31 (ag P (n+4)) #[aa 0,g]))) rest Z M) K:=by
  intro Z M g B c many rest K i e0 eg hp hB h0 h1 hk;refine cS (k:=λd M'=>∃v:Nat,d=nD (c+v)/\v<many/\aN M' p (B+1)/\bc p M M') ?_ ?_
  ·rw[jw];simp only[fN];refine aQ (f6 h (n+2) e0 eg hp hB h0 h1) ?_;rintro _ M2 ⟨v,rfl,hv,q,kk⟩;exact uI.mpr {v,by show D.int ((c:Int)+(v:Int))=D.int ((c+v:Nat):Int);rw[Int.natCast_add],hv,q,kk}
  ·rintro _ M' ⟨v,rfl,a,b,c⟩;exact hk v M' a b c
 refine plus rfl (Hr (c:=1) (az rfl) `a) hp (Pa hB `d) `a `a λw M1 hw q1 k1=>?_
 refine plus rfl (az rfl) q1 (bd hB `d) P1 (Pa P2 (P9 rfl)) λpl M2 hpl q2 k2=>?_
 have pl2:=q2.lt;have K2:=k1.trans k2;have ML:=K2.len;have w2:2<=2+w:=Qg _ _;have w4:2+w<=4:=`a
 have l1:1<=1+pl:=Qg _ _;have l2:1+pl<=2:=`a
 generalize hW:2+w=w' at w2 w4;generalize hP:1+pl=p' at l1 l2;refine cS (k:=λd M'=>d=.cell M2.length/\M'=M2++[[]]) ?_ ?_
 ·simp only[DL,cJ];exact pS.mpr {QO _,rfl,rfl}
 rintro _ _ ⟨rfl,rfl⟩;show ae (aT _ _ [some (.cell p),some (nD w'),some (nD p'),some (nD mo),some (.cell M2.length),none,none,none] (M2++[[]])) _;simp only[aM,gR,gP,jw,fN];refine aQ (f6 h (n+2) rfl rfl q2.app (bd (k:=2) hB `d) m1 (Pa m6 (P9 rfl))) ?_
 rintro _ M3 ⟨many,rfl,hmany,q3,k3⟩;have e3:=k3.get (List.getElem?_concat_length) `a
 have K3:=K2.trans (bc.app.trans k3);generalize hq:M2.length=q at *;refine uI.mpr {_,rfl,{`a,`a},?_}
 rw[show(1+(many:Int)).toNat=1+many by omega]
 refine fL (λi Z M'=>∃ds:List aW,M'[q]?=some (ds.map aW.d)/\ds.length=i/\(∀d∈ds,bZ w' p' d)/\aN M' p (B+3+i*45)/\bc p M M'/\∃a b c,Z=[some (.cell p),some (nD w'),some (nD p'),some (nD mo),some (.cell q),a,b,c])
  (λ_ _ _ _=>rfl) {[],e3,rfl,(λ_ hd=>nomatch hd),q3,K3,none,none,none,rfl} ?_ ?_
 ·rintro i d Z M' hd ⟨ds,e4,hl,hds,q4,K4,a,b,c,rfl⟩;have hi:i<1+many:=by
   have:=(OV.mp hd).1;simpa using this
  have hi6:i<=5:=`a
  have hB4:B+3+i*45<=700228:=`a
  have hqM:=ML;have hpq:=pl2;refine{_,rfl,?_};refine gQ h (n+2) rfl rfl q4 (Pa hB4 `d) `d `d λagain M5 ha q5 k5=>?_
  have e5:=k5.get e4 (PX hpq);refine cS (k:=λd M'=>∃e:aW,d=e.d/\bZ w' p' e/\aN M' p (B+3+i*45+41)/\bc p M5 M') ?_ ?_
  ·rw[bg (af (az rfl) (af (az rfl) (af (az rfl) rfl)))];exact aQ (A9 h n q5 (bd hB4 `d) w2 w4 l1 l2) λd M' ⟨e,a,b,c,d⟩=>⟨e,a,b,c,d⟩
  rintro _ M6 ⟨e,rfl,he,q6,k6⟩;have e6:=k6.get e5 (PX hpq);have K6:=(K4.trans k5).trans k6;have hsm:(ds.map aW.d).length<sz:=Ri (show(ds.map aW.d).length<=50 by rw[OY,hl];omega) `d
  have fin:∀(e:aW) (M'':Mem) (x5 x6:Option D),bZ w' p' e->M''[q]?=some (ds.map aW.d)->aN M'' p (B+3+(i+1)*45)->bc p M M''->
   ae (#v[fC (aa 4) (aa 7)] [some (.cell p),some (nD w'),some (nD p'),some (nD mo),some (.cell q),x5,x6,some e.d] M'') λfl M'=>∃ρ',fl=.next ρ'/\∃ds:List aW,M'[q]?=some (ds.map aW.d)/\ds.length=i+1/\(∀d∈ds,bZ w' p' d)/\aN M' p (B+3+(i+1)*45)/\bc p M M'/\∃a b c,ρ'=[some (.cell p),some (nD w'),some (nD p'),some (nD mo),some (.cell q),a,b,c]:=by
   intro e M'' x5 x6 he e7 q7 K7;simp only[aM,HF,bp];refine{_,rfl,_,rfl,q,ds.map aW.d,rfl,e7,hsm,_,rfl,ds++[e],?_,by rw[O9,hl];rfl,λd hd=>?_,q7.setq hpq,K7.setq hqM,_,_,_,rfl}
   ·rw[Py (OV.mp e7).1,Pn];rfl
   ·rcases PL.mp hd with z|z
    ·exact hds d z
    ·rw[Pr.mp z];exact he
  show ae (aT _ _ [some (.cell p),some (nD w'),some (nD p'),some (nD mo),some (.cell q),some d,some (nD again),some e.d] M6) _;have en:(aq (aH .ne (aa 4) (bt false bx)):GT) [some (.cell p),some (nD w'),some (nD p'),some (nD mo),some (.cell q),some d,some (nD again),some e.d] M6=.ok (!ds.isEmpty) M6:=by
   refine cZ ?_;unfold aH;show(bL M6 (bB .ne (.cell q) (.lst []) M6)).bind _=_;rw[ne_nil e6];rfl
  refine cf (wa (jv rfl) en) (λcc=>?_) λ_=>fin e M6 _ _ he e6 (q6.mono `a) K6
  have hpos:0<ds.length:=by
   rw[O3] at cc;cases ds with
   |nil=>exact absurd cc.2 `d
   |cons _ _=>exact Nat.succ_pos _
  simp only[aM,oj,jw,f7,rY,e9,bO,cJ,xo,fN];have el:aA .len #[aa 4] [some (.cell p),some (nD w'),some (nD p'),some (nD mo),some (.cell q),some d,some (nD again),some e.d] M6=.ok (nD ds.length) M6:=by
   refine ak ?_;simp only[dH,bO,cJ,bp];exact{_,rfl,tJ.mpr {_,e6,by rw[OY],rfl}}
  show ae (ah 31 (ag P (n+4)) #[aa 0,aA .len #[aa 4]] [some (.cell p),some (nD w'),some (nD p'),some (nD mo),some (.cell q),some d,some (nD again),some e.d] M6) _;refine aQ (f6 h (n+2) rfl el q6 (bd hB4 `d) hpos `a) ?_
  rintro _ M7 ⟨v,rfl,hv,q7,k7⟩;have e7:=k7.get e6 (PX hpq);refine{(ds.getD v e).d,?_,1,rfl,rfl,rfl,?_}
  ·show(M7[q]?).bind (λds=>(b6 ds.length (v:Int)).bind λj=>ds[j]?)=_;rw[e7];show(b6 (ds.map aW.d).length (v:Int)).bind (λj=>(ds.map aW.d)[j]?)=_;rw[eM (by rw[OY];exact hv)]
   simp[Qz,hv]
  ·refine aQ (B9 ?_) λx1 M3 hx=>{1,rfl,nD e.cost,lS,aG (n:=1) `d,hx}
   exact fin _ M7 _ _ (Av (hds _ (getD_mem hv)) (v5 he)) e7 (q7.mono `a) (K6.trans k7)
 ·rintro Z M' ⟨ds,e4,hl,hds,q4,K4,a,b,c,rfl⟩;simp only[OY,Ql] at hl q4;refine bM ?_;simp only[e9,bO,cJ,dH,bp];refine{_,rfl,_,rfl,_,rfl,wq.mpr {_,e4,aG (n:=3) `d,⟨w',p',ds⟩,rfl,{w2,w4,l1,l2,?_,?_,hds},?_,?_,?_,q4.mono `a,K4}}
  ·show 1<=ds.length;omega
  ·show ds.length<=6;omega
  ·show w'<=W;omega
  ·show p'<=Pl;omega
  ·show ds.length<=mo;omega
omit h in
theorem FQ {g:GE}{Z:Env}{l:List aW}(e:g Z M=.ok (.tup (l.map aW.d)) M):aA .len #[g] Z M=.ok (nD l.length) M:=by
 refine ak ?_;simp only[dH];rw[af e rfl,bS];exact{congrArg (λ(n:Nat)=>D.int n) (OY _),rfl}
theorem EM (h35:P 35=some {3,6,gm})(n:Nat){p B mo:Nat}{m:aJ}(hm:aC m)(hp:aN M p B)(hB:B<=700000)(O:mo<=40):ae (ag P (n+3) 35 [.cell p,m.d,nD mo] M) λd M'=>∃r:List Nat,d=.lst (r.map nD)/\cq m r/\r.length<=mo/\aN M' p (B+50)/\bc p M M':=by
 refine aF h35 rfl ?_;show ae (gm (ag P (n+2)) [some (.cell p),some m.d,some (nD mo),none,none,none] M) _;unfold gm;refine gQ h n rfl rfl hp `a `d `d λkind J _ Y k1=>?_
 refine cS (k:=λd M'=>∃v:Nat,d=nD v/\v<=mo/\aN M' p (B+2)/\bc p M M') ?_ ?_
 ·show ae (fZ _ _ _ [some (.cell p),some m.d,some (nD mo),some (nD kind),none,none] J) _;have t0:(aq (aH .eq (aa 3) (gI 0)):GT) [some (.cell p),some m.d,some (nD mo),some (nD kind),none,none] J=.ok ((kind:Int)==((0:Nat):Int)) J:=jv rfl;rw[LN,t0,bS];split
  ·exact{mo,rfl,OZ _,Y.mono `a,k1}
  ·refine aQ (f6 h n (many:=mo+1) rfl rfl Y `a (Nat.succ_pos _) `a) λd M' ⟨v,e,Q,a,b⟩=>{v,e,Nat.le_of_lt_succ Q,a,k1.trans b}
 intro x M2 R;show ae (aT _ _ [some (.cell p),some m.d,some (nD mo),some (nD kind),some x,none] M2) _;obtain⟨many,ex,F,q2,k2⟩:=R;rw[ex];clear ex;simp only[aM,oj,g6,gP,bp];have S:=Pa F O;refine{_,rfl,_,rfl,{Int.le_trans `d (Int.natCast_nonneg _),Int.lt_of_le_of_lt (Int.ofNat_le.mpr S) `d},?_}
 rw[QB];refine comp_map (λi y M'=>∃t:List Nat,y=t.map nD/\(∀x∈t,x<m.deeds.length)/\aN M' p (B+2+i)/\bc p M M') (aG (by rw[OY,Ql];omega)) (λ_ _ _ _=>rfl) {[],rfl,(λ_ z=>nomatch z),q2,k2} ?_ ?_
 ·rintro i d y M' hd _ ⟨t,rfl,I,u,E⟩;have W:i<many:=by
   have:=(OV.mp hd).1
   rwa [OY,Ql] at this
  refine{_,rfl,?_};refine aQ (f6 h n rfl (FQ (dj (az rfl) rfl IZ)) u `a hm.d1 (by have:=hm.d6;omega)) ?_
  rintro _ U ⟨v,rfl,Q,p4,k4⟩;refine{t++[v],by rw[Pn];rfl,λx R=>?_,p4,E.trans k4}
  rcases PL.mp R with z|z
  ·exact I x z
  ·rw[Pr.mp z];exact Q
 ·rintro y M' hl ⟨t,rfl,I,u,E⟩;rw[OY,OY,Ql] at hl;rw[OY,Ql] at u;have q3:=u.mono (show B+2+many<=B+50 by omega)
  have X:=E;have hl:=Nat.le_of_eq hl;refine bT.mpr {aG (by rw[OY];omega),?_}
  show ae (aT _ _ [some (.cell p),some m.d,some (nD mo),some (nD kind),some (nD many),some (.lst (t.map nD))] M') _;refine cf (jv rfl) (λ_=>?_) λ_=>gz (az rfl) {t,rfl,{`a,I},`a,q3,X}
  refine cS (k:=λd U=>U=M'/\d=.lst ((((List.replicate many (t.take 2)).flatten).take many).map nD)) ?_ ?_
  ·have l2:((t.map nD).take 2).length<=2:=by rw[PR];exact Nat.min_le_left _ _
   simp only[f7,jw,bp,fN];refine{_,rfl,rfl,rfl,(sF (a:=2)).mpr {aG `a,_,rfl,IV.mpr {{?_,`a,`a},bT.mpr {?_,?_}}}}
   ·exact Pa (Nat.mul_le_mul l2 (show many<=40 by omega)) `d
   ·rw[QB,List.length_flatten,List.map_replicate,List.sum_replicate_nat];exact Pa (Nat.mul_le_mul (show many<=40 by omega) l2) `d
   ·refine{_,rfl,rfl,rfl,sF.mpr {aG (by rw[PR];exact Pa (Nat.min_le_left _ _) `a),rfl,?_}}
    rw[QB,List.map_take,List.map_flatten,List.map_replicate,List.map_take]
  rintro _ _ ⟨rfl,rfl⟩;have lm:(((List.replicate many (t.take 2)).flatten).take many).length<=many:=by rw[PR];exact Nat.min_le_left _ _
  refine lB.mpr (bC.mpr (gz (az rfl) {_,rfl,{`a,λi W=>?_},`a,q3,X}))
  obtain⟨l,L,H⟩:=List.mem_flatten.mp (PY W);rw[(List.mem_replicate.mp L).2] at H;exact I i (PY H)
end
def E1 {a b:Nat}:ae (cQ false (.frz xs) (.int a) (.int b) M) k↔(cut xs (min a xs.length) (min b xs.length)).length<=sz/\k (.lst (cut xs (min a xs.length) (min b xs.length))) M:=by
 show ae (match aK xs.length 0 (.int a),aK xs.length xs.length (.int b) with|some l,some h=>a7 false (cut xs l h) M|_,_=>.bad) k↔_
 have e1:aK xs.length 0 (.int a)=some (min a xs.length):=by
  show some _=_;rw[if_neg `a];simp
 have e2:aK xs.length xs.length (.int b)=some (min b xs.length):=by
  show some _=_;rw[if_neg `a];simp
 rw[e1,e2];exact bT
def Ba {b:Nat}:ae (cQ false (.frz xs) .non (.int b) M) k↔(cut xs 0 (min b xs.length)).length<=sz/\k (.lst (cut xs 0 (min b xs.length))) M:=by
 show ae (match aK xs.length 0 D.non,aK xs.length xs.length (.int b) with|some l,some h=>a7 false (cut xs l h) M|_,_=>.bad) k↔_
 have e2:aK xs.length xs.length (.int b)=some (min b xs.length):=by
  show some _=_;rw[if_neg `a];simp
 rw[e2];exact bT
def v3 {j u:Type}(f:j->u)(l:List j)(a b:Nat):cut (l.map f) a b=(cut l a b).map f:=by simp[cut,List.map_take,List.map_drop]
def qh {j:Type}(l:List j)(a b:Nat):(cut l a b).length<=l.length:=by simp[cut];omega
section
variable{P:Nat->Option Df}(h:HasP0 P){M:Mem}
include h
theorem EO (n:Nat){ns:List Int}(hn:ns.length<=63):ae (ag P (n+1) 29 [.frz (ns.map D.int)] []) λd M'=>d=.cell 1/\aN M' 1 0:=by
 refine aF h.law_open rfl ?_;simp[jH,d4];refine(Ba).mpr {?_,?_}
 ·exact aG (Pa (qh _ _ _) `o)
 simp only[BD,pS];refine{aG (Pa (qh _ _ _) `o),(E1).mpr {aG (Pa (qh _ _ _) `o),rfl,?_}}
 rw[v3,v3];simp only[OY,List.length_nil,List.nil_append];have j:min 63 ns.length=ns.length:=`a
 rw[j];refine fL (λi v M'=>∃l:List Int,M'=[l.map D.int]/\l.length=min 12 ns.length/\∃a b,v=[some (.frz (ns.map D.int)),some (.cell 0),a,b]) (λ_ _ _ _=>rfl) {cut ns 0 (min 12 ns.length),rfl,by simp[cut],none,none,rfl} ?_ ?_
 ·rintro i d v M' hd ⟨l,rfl,hl,a,b,rfl⟩;rw[g5,Pt] at hd;cases e:(cut ns (min 12 ns.length) ns.length)[i]? with
  |none=>rw[e] at hd;cases hd
  | some x =>
    rw[e] at hd;have hd:=O2 hd;subst hd;have B:=(OV.mp e).1;have E:12<ns.length:=by
     by_cases c:12<ns.length
     ·exact c
     ·have:min 12 ns.length=ns.length:=`a
      rw[this] at B;simp[cut] at B
    have u:l.length=12:=`a
    have r1:=QS (i:Int) (show(12:Int)≠0 by decide)
    have r2:=QR (i:Int) (show(0:Int)<12 by decide)
    obtain⟨y,z⟩:=p6 r1 (by rw[u];exact r2)
    obtain⟨k,F⟩:∃k:Nat,(i:Int) % 12=(k:Int):={((i:Int) % 12).toNat,`a}
    refine{_,rfl,?_};simp;rw[F] at z ⊢;have hk:k<l.length:=`a
    refine{_,z,?_};refine{l.map D.int,rfl,k,?_,l.set k (y+x),?_,by simp[hl]}
    ·simpa using eM hk
    ·simp[List.map_set]
 ·rintro v M' ⟨l,rfl,hl,a,b,rfl⟩;simp;exact{`d,{0,l,0,0,rfl,rfl,`d,`d,`d,`d}}
end
abbrev bP:=List (List Nat)
def bD (b:bP):D:=.tup (b.map av)
def bh (m:aJ)(i:Nat)(b:bP):bP:=b.map (bY (bQ m i))
def cst (m:aJ)(i:Nat):Nat:=(bQ m i).cost
inductive jz (m:aJ):Nat->bP->Prop
 |start:jz m 0 (aU m)
 |step {q:Nat}{b:bP}{i:Nat}:jz m q b->i<m.deeds.length->jz m (q+cst m i) (bh m i b)
def bw (m:aJ)(q:Nat)(b:bP):Prop:=jz m q b/\∀q'<q,¬ jz m q' b
section
variable{m:aJ}{q q' p:Nat}{b:bP}
def i3 (hm:aC m)(hi:i<m.deeds.length):1<=cst m i/\cst m i<=3:=v5 (ie hm hi)
def vc (h:jz m q b):(q=0/\b=aU m)\/∃i j,i<m.deeds.length/\cst m i<=q/\jz m (q-cst m i) j/\b=bh m i j:=by
 cases h with
 |start=>exact .inl ⟨rfl,rfl⟩
 | @step q b i h u=>exact .inr {i,b,u,Nat.le_add_left _ _,by rw[Nat.add_sub_cancel];exact h,rfl}
def yT (hm:aC m)(h:jz m q b):b.length=(aU m).length/\∀s∈b,d7 m s:=by
 induction h with
 |start=>exact⟨rfl,mQ⟩
 | step _ u j =>
   refine{by unfold bh;rw[OY];exact j.1,λs hs=>?_}
   obtain⟨t,v,rfl⟩:=Pf.mp hs;exact qT (ie hm u) (j.2 t v)
def jn:∀{q:Nat},jz m q b->∃q',q'<=q/\bw m q' b:=by
 intro q;induction q using Nat.strongRecOn with
 | ind q j =>
   intro h;by_cases z:∃q',q'<q/\jz m q' b
   ·obtain⟨q',h1,h2⟩:=z;obtain⟨r,h3,h4⟩:=j q' h1 h2;exact{r,Pa h3 (Q4 h1),h4}
   ·exact{q,OZ _,h,λq' h1 h2=>z ⟨q',h1,h2⟩}
def kA (h:bw m q b)(j:bw m q' b):q=q':=by
 rcases Nat.lt_trichotomy q q' with z|z|z
 ·exact absurd h.1 (j.2 q z)
 ·exact z
 ·exact absurd j.1 (h.2 q' z)
def iq (hm:aC m):bw m 0 b↔b=aU m:=by
 constructor
 ·intro h;rcases vc h.1 with⟨_,e⟩|⟨i,u,j,v,_⟩
  ·exact e
  ·have:=(i3 hm j).1;omega
 ·rintro rfl;exact{.start,λq' h=>absurd h (Rh _)}
def kB (hm:aC m)(E:0<p):bw m p b↔(∃i j,i<m.deeds.length/\cst m i<=p/\bw m (p-cst m i) j/\b=bh m i j)/\∀q<p,¬ bw m q b:=by
 constructor
 ·intro h;refine{?_,λq y z=>h.2 q y z.1};rcases vc h.1 with⟨e,_⟩|⟨i,j,u,v,h1,rfl⟩
  ·omega
  ·refine{i,j,u,v,?_,rfl};obtain⟨r,hr,hl⟩:=jn h1;have h2:¬ r+cst m i<p:=λz=>h.2 _ z (.step hl.1 u);have e:r=p-cst m i:=`a
   rw[<- e];exact hl
 ·rintro⟨⟨i,j,u,v,h1,rfl⟩,h2⟩;refine{by have:=jz.step h1.1 u;rwa [Nat.sub_add_cancel v] at this,λq' B z=>?_}
  obtain⟨r,hr,hl⟩:=jn z;exact h2 r `a hl
def wX (hm:aC m)(B:0<p)(h:∀q,q<p->p<=q+3->∀b,¬ bw m q b):∀q,p<=q->∀b,¬ bw m q b:=by
 intro q;induction q using Nat.strongRecOn with
 | ind q v =>
   intro E b hl;obtain⟨⟨i,j,u,y,h1,_⟩,_⟩:=(kB hm `a).mp hl
   have c:=i3 hm u;by_cases z:p<=q-cst m i
   ·exact v _ `a z j h1
   ·exact h _ `a `a j h1
def zj {j u:Type}{f:j->u}:∀{l:List j},(l.map f).Nodup->l.Nodup
 |[],_=>.nil
 | a :: l, h => by
   rw[PV,Qo] at h;exact List.nodup_cons.mpr {λz=>h.1 (Qa z),zj h.2}
def len_sub {v:Type}[DecidableEq v]:∀{l l':List v},l.Nodup->(∀x∈l,x∈l')->l.length<=l'.length
 |[],_,_,_=>QO _
 | a :: l, l', h, s => by
   have j:=s a Pm;have h1:=len_sub (Qo.mp h).2 λx u=>by
    have ne:x≠a:=λe=>(Qo.mp h).1 (by rw[<- e];exact u)
    exact(List.mem_erase_of_ne ne).mpr (s x (O6 _ u))
   rw[List.length_erase_of_mem j] at h1;have h2:=List.length_pos_of_mem j;rw[PD];omega
structure fe (m:aJ) (p:Nat) (l:List (bP×Nat)):Prop where
 nd:(l.map (·.1)).Nodup
 sound:∀x∈l,bw m x.2 x.1/\x.2<p
 all:∀q b,q<p->bw m q b->(b,q)∈l
def qr (m:aJ)(p:Nat):Prop:=∃l:List (bP×Nat),(l.map (·.1)).Nodup/\(∀x∈l,bw m x.2 x.1/\x.2<p)/\255<l.length
def fe.mono (h:fe m p l)(u:p<=q)(he:∀k b,p<=k->k<q->¬ bw m k b):fe m q l:=
 {h.nd,λx j=>{(h.sound x j).1,Pj (h.sound x j).2 u},λk b hk hl=>by
  by_cases z:k<p
  ·exact h.all k b z hl
  ·exact absurd hl (he k b `a hk)}
end
def Sub.pen (h:Sub M M')(u:aN M p B):aN M' p B:=by
 obtain⟨c,j,a,st,e1,e2,r⟩:=u.ex;exact{c,j,a,st,h.get e1,h.get e2,r}
def Ad:∀l:List Nat,dB (l.map nD) (l.map nD)=true
 |[]=>rfl
 | i :: l => by
   show(bW (nD i) (nD i)&&dB (l.map nD) (l.map nD))=true;rw[Ad l];simp[nD,Ml]
def Gz (l:List Nat):bW (av l) (av l)=true:=Ad l
def nz (n:Nat)(l:List Nat):aj (n+1) (av l)=true:=by
 show(l.map nD).all (aj n)=true;rw[Pk];intro x j;obtain⟨i,_,rfl⟩:=Pf.mp j;cases n<;>rfl
def qK (n:Nat)(l:List (List Nat)):(l.map av).all (aj (n+1))=true:=by
 rw[Pk];intro x j;obtain⟨i,_,rfl⟩:=Pf.mp j;exact nz n i
def lY (a b:List Nat):ay m (a++b)=ay m a+ay m b:=by simp[ay]
@[simp] theorem NT:ae (ee (.list m) [.tup ds] M) k↔ae (a7 m ds M) k:=Qm
section
variable{Z:Env}{M:Mem}{a b d:GE}{k:D->Mem->Prop}{kw:Walk->Mem->Prop}{kf:Fl->Mem->Prop}
@[simp] theorem OP:ae (mI a b d Z M) kw↔ae (a Z M) λx M=>ae (b Z M) λy M=>ae (d Z M) λz M=>(dG x&&dG y&&dG z)=true/\kw (n8 x y z) M:=by
 simp only[mI,aV];refine iff_of_eq ?_;congr 1;funext x M;congr 1;funext y M;congr 1;funext z M;split<;>simp_all
@[simp] theorem OI:ae (HN m (.lst xs) M) k↔ae (a7 m xs.reverse M) k:=Qm
@[simp] theorem OH:ae (HN m (.tup xs) M) k↔k (.tup xs.reverse) M:=Qm
def p8 (I:Nat->Env->Mem->Prop)(R:D->Mem->Prop)(B:∀i Z M,I i Z M->w M=some ds)(v:∀d M,R d M->w M=some ds)(z:I 0 Z M)
 (hs:∀i d Z M,ds[i]?=some d->I i Z M->∃ρ1,bV t d Z=some ρ1/\ae (gb ρ1 M) λfl M=>(∃ρ',fl=.next ρ'/\I (i+1) ρ' M)\/∃d,fl=.ret d/\R d M) (hk:∀Z M,I ds.length Z M->kf (.next Z) M) (hr:∀d M,R d M->kf (.ret d) M) :
 ae (c6 (fw t gb) w (.next Z) M) kf:=by
 refine fz (λi fl M=>(∃Z,fl=.next Z/\I i Z M)\/∃d,fl=.ret d/\R d M) (λi fl M h=>h.elim (λ⟨Z,_,h⟩=>B i Z M h) λ⟨d,_,h⟩=>v d M h) (.inl ⟨Z,rfl,z⟩) ?_ ?_
 ·rintro i d fl M hd (⟨Z,rfl,j⟩|⟨y,rfl,u⟩)
  ·obtain⟨ρ1,e,h⟩:=hs i d Z M hd j;simp only[fw,aV,fV,e];exact⟨ρ1,rfl,h⟩
  ·exact .inr ⟨y,rfl,u⟩
 ·rintro fl M (⟨Z,rfl,j⟩|⟨d,rfl,u⟩)
  ·exact hk Z M j
  ·exact hr d M u
end
def Kh (i j:Nat):bW (nD i) (nD j)=decide (i=j):=by
 show((i:Int)==(j:Int))=_;rw[Qs];simp;omega
def pd:∀l r:List Nat,dB (l.map nD) (r.map nD)=decide (l=r)
 |[],[]=>rfl
 |[],_::_=>rfl
 |_::_,[]=>rfl
 | i :: l, j :: r => by
   show(bW (nD i) (nD j)&&dB (l.map nD) (r.map nD))=_;rw[Kh,pd l r,Qs];simp
def pe (l r:List Nat):bW (av l) (av r)=decide (l=r):=pd l r
def uB:∀l r:List (List Nat),dB (l.map av) (r.map av)=decide (l=r)
 |[],[]=>rfl
 |[],_::_=>rfl
 |_::_,[]=>rfl
 | i :: l, j :: r => by
   show(bW (av i) (av j)&&dB (l.map av) (r.map av))=_;rw[pe,uB l r,Qs];simp
def sS (n:Nat)(l:List Nat):aj (n+1) (.lst (l.map nD))=true:=by
 show(l.map nD).all (aj n)=true;rw[Pk];intro x j;obtain⟨i,_,rfl⟩:=Pf.mp j;cases n<;>rfl
def ux:bB .ne (av l) (av r) M=some (!decide (l=r)):=mO (nz 63 l) (nz 63 r) (pe l r)
def qY {l r:List (List Nat)}:bB .ne (.tup (l.map av)) (.tup (r.map av)) M=some (!decide (l=r)):=mO (qK 62 l) (qK 62 r) (uB l r)
def ends (m:aJ)(r:List Nat):List (List Nat):=(aU m).map (bU m r)
def hD (m:aJ)(r:List Nat):hZ m r=.tup ((ends m r).map av):=by simp[hZ,ends,Function.comp_def]
def gV (m:aJ)(a b:List Nat):Option (List Nat):=(aU m).find? λs=>!decide (bU m a s=bU m b s)
def Iu:Option (List Nat)->D
 |some s=>av s
 |none=>.non
def ni {j:Type}(f g e:j->D):∀l:List j,eV (l.map f) (l.map g) (l.map e)=l.map λs=>.tup [f s,g s,e s]
 |[]=>rfl
 |a::l=>by simp[eV,ni f g e l]
def zc (hi:(aU m)[i]?=some s)(h:∀t∈(aU m).take i,bU m a t=bU m b t)(hs:bU m a s≠bU m b s):gV m a b=some s:=by
 have e:aU m=(aU m).take i++s::(aU m).drop (i+1):=by
  obtain⟨h1,h2⟩:=OV.mp hi;rw[<- h2,<- List.drop_eq_getElem_cons h1,Q7]
 unfold gV;rw[e,List.find?_append];have:((aU m).take i).find? (λs=>!decide (bU m a s=bU m b s))=none:=by
  rw[Rj];intro t j;simp[h t j]
 rw[this];simp[List.find?_cons,hs]
def zb (h:∀t∈aU m,bU m a t=bU m b t):gV m a b=none:=by
 unfold gV;rw[Rj];intro t j;simp[h t j]
def rE:gV m a b=none↔ends m a=ends m b:=by
 unfold gV ends;rw[Rj,List.map_inj_left];simp
structure uN (P:Nat->Option Df):Prop where
 h15:P 15=some {1,6,bG}
 h27:P 27=some {2,2,fv}
 h46:P 46=some {2,2,eP}
 parted:P 48=some {3,8,nW}
section
variable{P:Nat->Option Df}{M:Mem}
def sy (h:HasM P)(j:uN P)(n:Nat)(S:aX M x a)(U:aX M y b)(hm:aC m)(h1:cq m a)(h2:cq m b):ae (ag P (n+12) 48 [m.d,x,y] M) λd M'=>d=Iu (gV m a b)/\Sub M M':=by
 have Q:=lA h j.h15 j.h27 j.h46 n S hm h1;have J:=lA h j.h15 j.h27 j.h46 n (U.sub (Sub.app (X:=(aU m).map λs=>(dt m a s).map av))) hm h2;generalize B:(M++(aU m).map λs=>(dt m a s).map av)++((aU m).map λs=>(dt m b s).map av)=I at J;have O:Sub M I:=by subst B;rw[Qp];exact Sub.app
 have R:=jN h.toHasM0.toHasB0 j.h15 (n+2) (M:=I) hm;refine aF j.parted rfl ?_;simp[nW,Q,J,R,dG];refine{⟨rfl,rfl⟩,?_};refine p8 (ds:=(aU m).map λs=>.tup [av s,av (bU m a s),av (bU m b s)]) (λi Z M'=>(∀t∈(aU m).take i,bU m a t=bU m b t)/\Sub M M'/\∃E F H,Z=[some m.d,some x,some y,some (hZ m a),some (hZ m b),E,F,H]) (λd M'=>d=Iu (gV m a b)/\Sub M M') ?_ ?_ {`s,O,none,none,none,rfl} ?_ ?_ ?_
 ·rintro i Z M' _;simp[n8,bR,hZ,ni]
 ·rintro d M' _;simp[n8,bR,hZ,ni]
 ·rintro i d Z M' hd ⟨v,u,E,F,H,rfl⟩;rw[Pt] at hd;cases e:(aU m)[i]? with
  |none=>rw[e] at hd;cases hd
  | some s =>
    rw[e] at hd;cases O2 hd;refine{_,rfl,?_};by_cases c:bU m a s=bU m b s
    ·simp[ux,c];refine{?_,u};intro t L;rw[Qq,e] at L;rcases PL.mp L with z|z
     ·exact v t z
     ·simp at z;subst z;exact c
    ·simp[ux,c];exact{by rw[zc e v c];rfl,u}
 ·rintro Z M' ⟨v,u,E,F,H,rfl⟩;simp at v ⊢;exact{by rw[zb (by simpa[Pw] using v)];rfl,u}
 ·rintro d M' ⟨rfl,u⟩;simp[u]
end
def nP:∀s:List Nat,intsOf (s.map nD)=some (s.map λ(n:Nat)=>(n:Int))
 |[]=>rfl
 |a::s=>by show(intsOf (s.map nD)).map _=_;rw[nP s];rfl
def vK (s:List Nat):isKey 77 (av s)=true:=by
 show(intsOf (s.map nD)).isSome=true;rw[nP];rfl
def zC:∀b:bP,jo (b.map av)=some (b.map λs=>s.map λ(n:Nat)=>(n:Int))
 |[]=>rfl
 | s :: b => by
   show((intsOf (s.map nD)).bind λk=>(jo (b.map av)).map (k::·))=_;rw[nP,zC b];rfl
def rT (b:bP):isKey 78 (bD b)=true:=by
 show(jo (b.map av)).isSome=true;rw[zC];rfl
def Mm (a b:bP):bW (bD a) (bD b)=decide (a=b):=uB a b
section
variable{Z:Env}{M:Mem}{a b:GE}{k:D->Mem->Prop}
def oP {c:Int}(e:M[j]?=some (.int c::es))(h:c=77\/c=78):c4 M (au j)=some (c,es):=by
 unfold c4;rw[if_pos (show 5000<=au j from Qg _ _),show au j-5000=j from Pz _ _,e];exact if_pos h
def nK {h:Type}(f g:h->D)(l:List h)(x:D):dv (l.map λy=>.tup [f y,g y]) x=(l.find? λy=>bW (f y) x).map g:=by
 unfold dv;rw[List.find?_map,Option.map_map];rfl
def tW {x:D}{o:Nat}{y d:D}(h:a Z M=.ok (.fn o) M)(u:b Z M=.ok y M)(e:getD M o y=some d):iw a b Z M=.ok d M:=by
 unfold iw;rw[h];show(b Z M).bind _=_;rw[u];show bL M (getD M o y)=_;rw[e];rfl
end
def dM (m:aJ)(d:aW):List D:=.int 77::(aU m).map λs=>.tup [av s,av (bY d s)]
section
variable{P:Nat->Option Df}{M:Mem}{m:aJ}{d:aW}{j:Nat}
def nM (e:M[j]?=some (dM m d))(hm:aC m)(hs:d7 m s):getD M (au j) (av s)=some (av (bY d s)):=by
 unfold getD;rw[oP e (.inl rfl)];show(if isKey 77 (av s)=true then dv ((aU m).map λs=>.tup [av s,av (bY d s)]) (av s) else none)=_;rw[if_pos (vK s),nK av λs=>av (bY d s)];have e2:((aU m).find? λy=>bW (av y) (av s))=some s:=by
  cases h:(aU m).find? λy=>bW (av y) (av s) with
  |none=>exact absurd (Gz s) (List.find?_eq_none.mp h s (uC hm hs))
  | some y =>
    have:=List.find?_some h;rw[pe] at this;rw[of_decide_eq_true this]
 rw[e2];rfl
def yD (h152:P 152=some {2,2,dC})(n:Nat)(e:M[j]?=some (dM m d))(hm:aC m)(hl:b.length<=16)(h:∀s∈b,d7 m s):ag P (n+1) 152 [.fn (au j),bD b] M=.ok (bD (b.map (bY d))) M:=by
 refine ak (aF h152 rfl ?_);simp only[dC,aM,eL,dH,bO,g6,cJ,mq,bp];refine{_,rfl,rfl,?_};refine g8 (λx=>(getD M (au j) x).getD .non) (aG `o) rfl ?_ ?_
 ·intro x u;obtain⟨s,hs,rfl⟩:=Pf.mp u;refine{_,rfl,?_};rw[nM e hm (h s hs)];exact tW (x:=.non) rfl rfl (nM e hm (h s hs))
 ·have e2:(b.map av).map (λx=>(getD M (au j) x).getD .non)=(b.map (bY d)).map av:=by
   rw[Qi,Qi];refine QM λs hs=>?_;show(getD M (au j) (av s)).getD .non=_;rw[nM e hm (h s hs)];rfl
  rw[e2];exact bT.mpr {aG `o,rfl,rfl}
end
def vB {u F:Type}{f:u->List F}:∀{l:List u},l.Nodup->(∀a,(f a).Nodup)->(∀a b x,a≠b->x∈f a->x∉f b)->(l.flatMap f).Nodup
 |[],_,_,_=>`s
 | a :: l, h, h1, h2 => by
   rw[List.flatMap_cons,List.nodup_append];rw[Qo] at h;refine{h1 a,vB h.2 h1 h2,λx B y E e=>?_};subst e;obtain⟨b,v,j⟩:=List.mem_flatMap.mp E;exact h2 a b x (λz=>h.1 (z ▸ v)) B j
def vA (s:List Nat):∀{l:List Nat},l.Nodup->(l.map λx=>s++[x]).Nodup
 |[],_=>`s
 | a :: l, h => by
   rw[Qo] at h;rw[PV,Qo];refine{λz=>?_,vA s h.2};obtain⟨b,j,e⟩:=Pf.mp z;have e:b=a:=by simpa using e
   exact h.1 (e ▸ j)
def uE (w:Nat):∀p,(c8 w p).Nodup
 |0=>by unfold c8;simp
 | p + 1 => by
   unfold c8 qb;refine vB (uE w p) (λs=>vA s List.nodup_range) λa b x h u v=>?_;obtain⟨i,_,rfl⟩:=Pf.mp u;obtain⟨j,_,e⟩:=Pf.mp v;exact h (List.append_inj_left' e rfl).symm
def Lr {v:Type}{l:List v}(h:l.Nodup){i j:Nat}{x:v}(u:i<j)(hi:l[i]?=some x)(y:l[j]?=some x):False:=by
 obtain⟨h1,e1⟩:=OV.mp hi;obtain⟨h2,e2⟩:=OV.mp y;exact List.pairwise_iff_getElem.mp h i j h1 h2 u (e1.trans e2.symm)
section
variable{Z:Env}{M:Mem}{k:D->Mem->Prop}{kl:List D->Mem->Prop}
def F2 {c:Int}(h:ae (w Z M) λw M=>ae (c6 (dr tg g (List.replicate n none++Z)) w [.fn (au M.length)] (M++[[.int c]])) λacc M=>∃d,acc=[d]/\k d M):ae (jY c n tg w g Z M) k:=by
 refine aV.mpr (aQ h λw M h=>aV.mpr (aQ h ?_));rintro _ M ⟨d,rfl,h⟩;exact h
def JH (h1:gk Z M=.ok x M)(h2:gv Z M=.ok y M)(e:c4 M o=some q)(hk:isKey q.1 x=true)(hl:q.2.length<1000000)(h:kl [.fn o] (M.set (o-5000) (.int q.1::putD q.2 x y))):ae (ju gk gv Z [.fn o] M) kl:=by
 unfold ju;rw[h1];show ae ((gv Z M).bind _) kl;rw[h2];show ae (match c4 M o with|some q=>if isKey q.1 x=true/\q.2.length<1000000 then Res.ok [D.fn o] (M.set (o-5000) (.int q.1::putD q.2 x y)) else .bad|none=>.bad) kl
 rw[e];show ae (if isKey q.1 x=true/\q.2.length<1000000 then Res.ok [D.fn o] (M.set (o-5000) (.int q.1::putD q.2 x y)) else .bad) kl;rw[if_pos ⟨hk,hl⟩];exact h
end
def ve (h:dv es x=none):putD es x y=es++[.tup [x,y]]:=by
 unfold putD;rw[h];rfl
section
variable{P:Nat->Option Df}{M:Mem}{m:aJ}{d:aW}
def Bc (h:j=M.length):(M++[x]).set j y=M++[y]:=by
 subst h;rw[List.set_append_right _ _ (OZ _),Nat.sub_self];rfl
def zx {n:Nat}(B:∀s M,d7 m s->ag P (n+2) 24 [d.d,av s] M=.ok (av (bY d s)) M)(hm:aC m)(hk:k (.fn (au M.length)) (M++[dM m d])) :
 ae (jY 77 1 (.one 0) (dA (aa 2)) (ju (aa 0) (ah 24 (ag P (n+2)) #[aa 1,aa 0])) [some d.d,y,some (.lst ((aU m).map av))] M) k:=by
 refine F2 ?_;simp only[mq,bp];refine{_,rfl,rfl,?_};have bl:=kL hm;have nd:=uE m.words m.places;refine fz (λi h v=>h=[.fn (au M.length)]/\v=M++[.int 77::((aU m).take i).map λs=>.tup [av s,av (bY d s)]]) (λ_ _ _ _=>rfl) {rfl,`s} ?_ ?_
 ·rintro i x h v hd ⟨rfl,rfl⟩;rw[Pt] at hd;cases e:(aU m)[i]? with
  |none=>rw[e] at hd;cases hd
  | some s =>
    rw[e] at hd;have hd:=O2 hd;subst hd;have hs:=mQ s (PZ e);simp only[dr,aV,fV];refine{_,rfl,?_};have F:(M++[.int 77::((aU m).take i).map λs=>D.tup [av s,av (bY d s)]])[M.length]?=some (.int 77::((aU m).take i).map λs=>D.tup [av s,av (bY d s)]):=`s
    refine JH rfl ((bg (af rfl (af rfl rfl))).trans (B s _ hs)) (oP F (.inl rfl)) (vK s) `o {rfl,?_}
    have none:dv (((aU m).take i).map λs=>.tup [av s,av (bY d s)]) (av s)=Option.none:=by
     rw[nK av λs=>av (bY d s)];rw[Rj.mpr];rfl;intro t H;rw[pe];intro z;have z:=of_decide_eq_true z;subst z;obtain⟨j,E⟩:=List.getElem?_of_mem H;have u:j<i:=by
      have:=(OV.mp E).1;simp at this;omega
     rw[List.getElem?_take_of_lt u] at E;exact Lr nd u E e
    rw[ve none];rw[show au M.length-5000=M.length from Pz _ _,Bc rfl,Qq,e];simp
 ·rintro h v ⟨rfl,rfl⟩;rw[OY,Pw (OZ _)];exact{_,rfl,hk}
end
section
variable{Z:Env}{M:Mem}
def GF (e:a Z M=.ok x M):cv (.one i) a Z M=.ok (.next (Z.set i (some x))) M:=by
 unfold cv;rw[e];rfl
def dh (e:s Z M=.ok xs M):bf f c s Z M=c f xs M:=by
 unfold bf;rw[e]
end
noncomputable def cj (m:aJ)(L:Nat):D:=.lst ((List.range m.deeds.length).map λi=>.tup [nD (cst m i),.fn (au (L+i))])
def qg (e:m.deeds[i]?=some d):bQ m i=d:=by
 unfold bQ;rw[Qz,e];rfl
section
variable{P:Nat->Option Df}{M:Mem}{m:aJ}
def sD (u:HasB0 P)(hr:jB P)(h15:P 15=some {1,6,bG})(h151:P 151=some {1,2,dw})(n:Nat)(hm:aC m):ag P (n+10) 151 [m.d] M=.ok (cj m M.length) (M++m.deeds.map (dM m)):=by
 refine ak (aF h151 rfl ?_);refine bo (GF ((dh (af rfl rfl)).trans (jN u h15 n hm))) ?_;simp only[aM,eL,g6,mq,rY,bp,fN];refine{_,rfl,_,rfl,rfl,?_};have d6:=hm.d6;refine comp_map (λi h j=>h=(List.range i).map (λi=>.tup [nD (cst m i),.fn (au (M.length+i))])/\j=M++(m.deeds.take i).map (dM m)) (aG `o) (λ_ _ _ _=>rfl) {rfl,`s} ?_ ?_
 ·rintro i x h j hd _ ⟨rfl,rfl⟩;rw[Pt] at hd;cases e:m.deeds[i]? with
  |none=>rw[e] at hd;cases hd
  | some d =>
    rw[e] at hd;have hd:=O2 hd;subst hd;have v:=(OV.mp e).1;have hok:=hm.ok d (PZ e);refine{_,rfl,?_};simp only[e9,bO,rY,bp,xo,fN,cJ];refine{_,rfl,_,rfl,nD d.cost,lS,?_};refine zx (λs M hs=>u7 hr (n+7) hm hok hs) hm {aG (n:=2) `d,?_,?_}
    ·have l:(M++(m.deeds.take i).map (dM m)).length=M.length+i:=by simp;omega
     rw[l,List.range_succ,Pn];have c:cst m i=d.cost:=by unfold cst;rw[qg e]
     rw[<- c];rfl
    ·rw[Qq,e];simp
 ·rintro h j _ ⟨rfl,rfl⟩;rw[OY,Pw (OZ _)];exact bT.mpr {aG `o,rfl,rfl}
end
section
variable{Z ρ':Env}{M M':Mem}{a b d:GE}{t rest:GS}{kf:Fl->Mem->Prop}
def fS (e:t Z M=.ok (.next ρ') M')(h:ae (rest ρ' M') kf):ae (aT t rest Z M) kf:=by
 rw[aM,e];exact h
def JZ (h:a Z M=.ok x M)(j:b Z M=.ok (.fn o) M)(e:inD M o x=some r):lV n a b Z M=.ok (.bl (n != r)) M:=by
 unfold lV;rw[h];show(b Z M).bind _=_;rw[j];show(match inD M o x with|some r=>Res.ok (D.bl (n != r)) M|none=>.bad)=_
 rw[e]
def Gd (h:a Z M=.ok (.fn o) M)(e:c4 M o=some q):mJ a Z M=.ok (nD q.2.length) M:=by
 unfold mJ;rw[h];show(match c4 M o with|some q=>Res.ok (D.int q.2.length) M|none=>.bad)=_
 rw[e]
def Kn (h:a Z M=.ok (.cell j) M)(hd:d Z M=.ok z M)(e:M[j]?=some ds)(hl:ds.length<sz):fC a d Z M=.ok (.next Z) (M.set j (ds++[z])):=by
 unfold fC;rw[h];show(d Z M).bind _=_;rw[hd];show(match M[j]? with|some ds=>if ds.length<sz then Res.ok (Fl.next Z) (M.set j (ds++[z])) else .bad|none=>.bad)=_
 rw[e];exact if_pos hl
def Jr {i j:Int}(h1:a Z M=.ok (.int i) M)(h2:b Z M=.ok (.int j) M):aq (aH .gt a b) Z M=.ok (decide (j<i)) M:=by
 refine fM (fQ.mpr (eJ.mpr ?_));rw[h1,bS,h2,bS];exact{_,rfl,_,rfl,rfl,rfl}
def LM {i:Int}(ha:a Z M=.ok (.int i) M)(h1:z.length<=1000)(h2:y.length<=1000)(h3:i.natAbs<2^64):mZ z y a Z M=.ok (.str (z++(toString i:Str)++y)) M:=by
 unfold mZ;rw[ha];exact if_pos ⟨h1,h2,h3⟩
end
abbrev rA:=List (bP×Nat×List Nat)
set_option tactic.hygienic true in
def vS (I:Nat->Env->Mem->Prop)(X:Fl->Mem->Prop)(z:∀fl M,X fl M->∀Z,fl≠.next Z)(B:∀i Z M,I i Z M->w M=some ds)(v:∀fl M,X fl M->w M=some ds)(y:I 0 Z M)
 (hs:∀i d Z M,ds[i]?=some d->I i Z M->∃ρ1,bV t d Z=some ρ1/\ae (gb ρ1 M) λfl M=>(∃ρ',fl=.next ρ'/\I (i+1) ρ' M)\/X fl M) (hk:∀Z M,I ds.length Z M->kf (.next Z) M) (E:∀fl M,X fl M->kf fl M) :
 ae (c6 (fw t gb) w (.next Z) M) kf:=by
 refine fz (λi fl M=>(∃Z,fl=.next Z/\I i Z M)\/X fl M) (λi fl M h=>h.elim (λ⟨Z,_,h⟩=>B i Z M h) λh=>v fl M h) (.inl ⟨Z,rfl,y⟩) ?_ ?_
 ·rintro i d fl M hd (⟨Z,rfl,u⟩|j)
  ·obtain⟨ρ1,e,h⟩:=hs i d Z M hd u;simp only[fw,aV,fV,e];exact⟨ρ1,rfl,h⟩
  ·cases fl with
   |next Z=>exact absurd rfl (z _ _ j Z)
   |ret d=>exact .inr j
   |exc x Z=>exact .inr j
 ·rintro fl M (⟨Z,rfl,u⟩|j)
  ·exact hk Z M u
  ·exact E fl M j
structure NW (p:Nat) (E0:rA) (S:bP->Prop) (N:rA):Prop where
 nd:((E0++N).map (·.1)).Nodup
 fr:∀x∈N,S x.1/\x.2.1=p/\x.2.2.length<=p
 al:∀b,S b->b∈(E0++N).map (·.1)
def rq (p:Nat)(E0:rA)(S:bP->Prop):Prop:=∃N:rA,((E0++N).map (·.1)).Nodup/\(∀x∈N,S x.1/\x.2.1=p)/\255<(E0++N).length
def rq.mono (h:rq p E0 S)(hs:∀b,S b->S' b):rq p E0 S':=let⟨N,h1,h2,h3⟩:=h;{N,h1,λx j=>{hs _ (h2 x j).1,(h2 x j).2},h3}
def NW.old (h:NW p E0 S N)(hs:∀x,S' x↔S x\/x=b)(u:∃e∈E0++N,e.1=b):NW p E0 S' N:=
 {h.nd,λx j=>{(hs _).mpr (.inl (h.fr x j).1),(h.fr x j).2},λc v=>by
  rcases(hs c).mp v with z|z
  ·exact h.al c z
  ·obtain⟨e,he,y⟩:=u;rw[z,<- y];exact Qa he}
def NW.new (h:NW p E0 S N)(hs:∀x,S' x↔S x\/x=b)(v:∀e∈E0++N,e.1≠b)(hr:r.length<=p):NW p E0 S' (N++[(b,p,r)]):=by
 refine{?_,λx j=>?_,λc B=>?_}
 ·rw[<- Qp,Pn,List.nodup_append];refine{h.nd,`s,λx j y u e=>?_}
  obtain⟨z,E,rfl⟩:=Pf.mp j;have u:y=b:=by simpa using u
  exact v z E (e.trans u)
 ·rcases PL.mp j with z|z
  ·exact{(hs _).mpr (.inl (h.fr x z).1),(h.fr x z).2}
  ·obtain rfl:=Pr.mp z;exact{(hs _).mpr (.inr rfl),rfl,hr}
 ·rw[<- Qp,Pn];rcases(hs c).mp B with z|z
  ·exact Qh _ (h.al c z)
  ·exact PF _ (by rw[z];exact Pr.mpr rfl)
def uM (M:Mem)(fk:Nat)(x:D)(A:List bP):Prop:=x=.lst (A.map bD)\/∃c,x=.cell c/\c≠fk/\M[c]?=some (A.map bD)
def F0:∀{k i:Nat}{d:D},(dN k ds)[i]?=some d->∃x,ds[i]?=some x/\d=.tup [nD (k+i),x]:=by
 induction ds with
 |nil=>intro k i d h;simp[dN] at h
 | cons a ds j =>
   intro k i d h;cases i with
   |zero=>cases h;exact⟨a,rfl,rfl⟩
   | succ i =>
     obtain⟨x,h1,h2⟩:=j h;exact{x,h1,by rw[h2,QW,Nat.add_comm 1 i]}
def nS:∀{ds:List D}{k:Nat},(dN k ds).length=ds.length
 |[],_=>rfl
 |_::ds,k=>by show(dN (k+1) ds).length+1=ds.length+1;rw[nS]
def iC (m:aJ)(p:Nat)(Ls:Nat->List bP)(i:Nat):List bP:=if cst m i<=p then Ls (p-cst m i) else []
def jg (m:aJ)(p:Nat)(Ls:Nat->List bP)(i:Nat)(b:bP):Prop:=∃h,h<i/\b∈(iC m p Ls h).map (bh m h)
noncomputable def pr (e:bP×Nat×List Nat):bP×Nat:=(e.1,e.2.1)
section
variable{m:aJ}{p:Nat}{E0 N:rA}{Ls:Nat->List bP}
def mB (E:rA):(E.map pr).map (·.1)=E.map (·.1):=by rw[Qi];rfl
set_option tactic.hygienic true in
def uo (hm:aC m)(u:∀q,q<p->∀b,b∈Ls q↔bw m q b)(b:bP):jg m p Ls m.deeds.length b↔∃i j,i<m.deeds.length/\cst m i<=p/\bw m (p-cst m i) j/\b=bh m i j:=by
 constructor
 ·rintro⟨i,v,h⟩;have c:=i3 hm v;obtain⟨j,y,rfl⟩:=Pf.mp h;unfold iC at y;split at y
  ·next z=>exact{i,j,v,z,(u _ `a j).mp y,rfl}
  ·exact nomatch y
 ·rintro⟨i,j,v,z,hl,rfl⟩;have c:=i3 hm v;refine{i,v,Qa ?_};unfold iC;rw[if_pos z];exact(u _ `a j).mpr hl
def m5 (hm:aC m)(v:0<p)(h:∀q,q<p->∀b,b∈Ls q↔bw m q b)(j:fe m p (E0.map pr))(nd:((E0++N).map (·.1)).Nodup)(B:x∈N)(u:jg m p Ls m.deeds.length x.1):bw m p x.1:=by
 refine(kB hm v).mpr {(uo hm h _).mp u,λq y hl=>?_};have z:=j.all q x.1 y hl;have E:x.1∈E0.map (·.1):=by rw[<- mB];exact Qa z
 rw[Pn,List.nodup_append] at nd;exact nd.2.2 _ E _ (Qa B) rfl
def FP (hm:aC m)(E:0<p)(v:∀q,q<p->∀b,b∈Ls q↔bw m q b)(B:fe m p (E0.map pr))(u:NW p E0 (jg m p Ls m.deeds.length) N):fe m (p+1) ((E0++N).map pr)/\∀b,b∈N.map (·.1)↔bw m p b:=by
 have fl:=λx j=>m5 hm E v B u.nd j (u.fr x j).1;have back:∀b,bw m p b->∃x∈N,x.1=b:=λb hl=>by
  have F:=(uo hm v b).mpr ((kB hm E).mp hl).1;obtain⟨x,j,e⟩:=Pf.mp (u.al b F);rcases PL.mp j with z|z
  ·have s:=B.sound (pr x) (Qa z);have s1:=e ▸ s.1;have:=kA s1 hl;omega
  ·exact⟨x,z,e⟩
 refine{{by rw[mB];exact u.nd,λy H=>?_,λq b I hl=>?_},λb=>{λh=>?_,λh=>?_}}
 ·obtain⟨x,j,rfl⟩:=Pf.mp H;rcases PL.mp j with z|z
  ·have s:=B.sound (pr x) (Qa z);exact{s.1,Ra s.2}
  ·have e:x.2.1=p:=(u.fr x z).2.1;exact{by show bw m x.2.1 x.1;rw[e];exact fl x z,by show x.2.1<p+1;omega}
 ·rcases Nat.lt_or_ge q p with z|z
  ·rw[Pn];exact Qh _ (B.all q b z hl)
  ·have:q=p:=`a
   subst this;obtain⟨x,j,rfl⟩:=back b hl;rw[Pn];refine PF _ (Pf.mpr {x,j,?_});show(x.1,x.2.1)=_;rw[(u.fr x j).2.1]
 ·obtain⟨x,j,rfl⟩:=Pf.mp h;exact fl x j
 ·obtain⟨x,j,rfl⟩:=back b h;exact Qa j
def Bu (hm:aC m)(u:0<p)(h:∀q,q<p->∀b,b∈Ls q↔bw m q b)(j:fe m p (E0.map pr))(E:rq p E0 (jg m p Ls m.deeds.length)):qr m (p+1):=by
 obtain⟨N,nd,fr,hl⟩:=E;refine{(E0++N).map pr,by rw[mB];exact nd,λy B=>?_,by rw[OY];exact hl}
 obtain⟨x,v,rfl⟩:=Pf.mp B;rcases PL.mp v with z|z
 ·have s:=j.sound (pr x) (Qa z);exact{s.1,Ra s.2}
 ·have e:x.2.1=p:=(fr x z).2;exact{by show bw m x.2.1 x.1;rw[e];exact m5 hm u h j nd z (fr x z).1,by show x.2.1<p+1;omega}
def qr.mono (h:qr m p)(u:p<=q):qr m q:=let⟨l,h1,h2,h3⟩:=h;{l,h1,λx j=>{(h2 x j).1,Pj (h2 x j).2 u},h3}
end
noncomputable def lsN (Ls:Nat->List bP)(p:Nat)(A:List bP):Nat->List bP:=λq=>if q=p then A else Ls q
set_option tactic.hygienic true in
def xV {c:GT}{b:GS}{y:Fl->Mem->Prop}(I:Nat->Env->Mem->Prop)
 (hs:∀k Z M,I k Z M->ae (c Z M) λv M1=>(v=false->y (.next Z) M1)/\(v=true->∃k',k=k'+1/\ae (b Z M1) λfl j=>(∃ρ',fl=.next ρ'/\I k' ρ' j)\/((∀ρ',fl≠.next ρ')/\y fl j))) :
 ∀(n k:Nat) (Z:Env) (M:Mem),k<n->I k Z M->ae (jM c b n Z M) y:=by
 intro n;induction n with
 |zero=>intro k Z M h;exact absurd h (Rh _)
 | succ n E =>
   intro k Z M h B;unfold jM;refine aV.mpr (aQ (hs k Z M B) λv M1 ⟨h1,h2⟩=>?_);cases v with
   |false=>exact h1 rfl
   | true =>
     obtain⟨k',rfl,h3⟩:=h2 rfl;rw[if_pos rfl];refine aV.mpr (aQ h3 λfl j h4=>?_);rcases h4 with⟨ρ',rfl,u⟩|⟨u,z⟩
     ·exact E k' ρ' j `a u
     ·cases fl with
      |next ρ'=>exact absurd rfl (u ρ')
      |ret d=>exact z
      |exc x ρ'=>exact z
def sI {c:GT}{b:GS}{Z:Env}{M:Mem}{j:Fl->Mem->Prop}(I:Nat->Env->Mem->Prop)
 (hs:∀k Z M,I k Z M->ae (c Z M) λv M1=>(v=false->j (.next Z) M1)/\(v=true->∃k',k=k'+1/\ae (b Z M1) λfl u=>(∃ρ',fl=.next ρ'/\I k' ρ' u)\/((∀ρ',fl≠.next ρ')/\j fl u))) {k:Nat} (hk:k<100000) (h:I k Z M):ae (gU c b Z M) j:=xV I hs 100000 k Z M hk h
section
variable{M:Mem}{m:aJ}{L0 lv fk p:Nat}{E0:rA}{lvs:List D}{Ls:Nat->List bP}{Z:Env}
def I8 {x:D}{A:List bP}(h:uM M fk x A):nj M x=some (!A.isEmpty):=by
 rcases h with rfl|⟨c,rfl,_,e⟩
 ·show some (!(A.map bD).isEmpty)=_;rw[List.isEmpty_map]
 ·show(M[c]?).map (λxs=>!xs.isEmpty)=_;rw[e];show some (!(A.map bD).isEmpty)=_;rw[List.isEmpty_map]
def uX {M:Mem}{g:Nat->Bool}:∀{l:List D}{k:Nat},(∀i x,l[i]?=some x->nj M x=some (g (k+i)))->ji M l=some ((List.range l.length).map λi=>g (k+i))
 |[],_,_=>rfl
 | a :: l, k, h => by
   show(nj M a).bind (λb=>(ji M l).map (b::·))=_;have j:=h 0 a rfl;have h1:=uX (l:=l) (k:=k+1) (M:=M) (g:=g) λi x u=>by
    have:=h (i+1) x u;rw[this,QW,Nat.add_comm 1 i]
   rw[j,h1,PD,List.range_succ_eq_map,PV,Qi];show some (g (k+0)::_)=_
   congr 2
   refine QM λi _=>?_;show g (k+1+i)=g (k+(i+1));rw[QW,Nat.add_comm 1 i]
end
section
variable{Z:Env}{M M':Mem}{kf:Fl->Mem->Prop}
def v9 (e:a Z M=.ok x M'):cv (.one i) a Z M=.ok (.next (Z.set i (some x))) M':=by
 unfold cv;rw[e];rfl
def jb (e:a Z M=.ok x M'):aw (.one i) a Z M=.ok (.next (Z.set i (some x))) M':=by
 unfold aw;rw[e];rfl
def GG (u:a Z M=.ok (.cell j) M)(h:dW (d Z M) (λz M1=>∃ds,M1[j]?=some ds/\ds.length<sz/\kf (.next Z) (M1.set j (ds++[z]))) (λx M1=>kf (.exc x Z) M1)):ae (mx a d Z M) kf:=by
 unfold mx;rw[u];show ae (pD (λz M=>match M[j]? with|some ds=>if ds.length<sz then Res.ok (Fl.next Z) (M.set j (ds++[z])) else .bad|none=>.bad) Z (d Z M)) kf
 cases e:d Z M with
 |bad=>rw[e] at h;exact h.elim
 |err x M1=>rw[e] at h;exact h
 | ok z M1 =>
   rw[e] at h;obtain⟨ds,e1,hl,h⟩:=h;show ae (match M1[j]? with|some ds=>if ds.length<sz then Res.ok (Fl.next Z) (M1.set j (ds++[z])) else .bad|none=>.bad) kf
   rw[e1];show ae (if ds.length<sz then Res.ok (Fl.next Z) (M1.set j (ds++[z])) else .bad) kf
   rw[if_pos hl];exact h
end
noncomputable def nV {α:Type}(k:α->bP)(v:α->D)(E:List α):List D:=.int 78::E.map λe=>.tup [bD (k e),v e]
section
variable{α:Type}{k:α->bP}{v:α->D}{E:List α}{M:Mem}{j:Nat}{b:bP}{x:α}
def qe:dv (E.map λe=>.tup [bD (k e),v e]) (bD b)=(E.find? λe=>decide (k e=b)).map v:=by
 refine(nK (λe=>bD (k e)) v E (bD b)).trans ?_
 congr 2
 funext x
 exact Mm _ b
def oO (e:M[j]?=some (nV k v E)):c4 M (au j)=some (78,E.map λe=>.tup [bD (k e),v e]):=oP e (.inr rfl)
def LS (e:M[j]?=some (nV k v E)):inD M (au j) (bD b)=some (E.any λe=>decide (k e=b)):=by
 unfold inD;rw[oO e];show(if isKey 78 (bD b)=true then some (dv _ (bD b)).isSome else none)=_;rw[if_pos (rT b),qe,Q9]
 congr 1
 rw[Qs,List.find?_isSome,List.any_eq_true]
def JY (hn:∀e∈E,k e≠b):putD (E.map λe=>.tup [bD (k e),v e]) (bD b) z=(E.map λe=>.tup [bD (k e),v e])++[.tup [bD b,z]]:=by
 refine ve ?_;rw[qe,Rj.mpr];rfl;exact λx h e=>hn x h (of_decide_eq_true e)
def vW:∀{E:List α},(E.map k).Nodup->∀{x:α},x∈E->(E.find? λe=>decide (k e=k x))=some x
 |[],_,_,h=>nomatch h
 | a :: E, nd, x, h => by
   rw[PV,Qo] at nd;rw[List.find?_cons];by_cases e:k a=k x
   ·rw[decide_eq_true e];rcases PJ.mp h with z|z
    ·rw[z]
    ·exact absurd (by rw[e];exact Qa z) nd.1
   ·rw[decide_eq_false e];rcases PJ.mp h with z|z
    ·exact absurd (by rw[z]) e
    ·exact vW nd.2 z
def ua (e:M[j]?=some (nV k v E))(nd:(E.map k).Nodup)(h:x∈E):getD M (au j) (bD (k x))=some (v x):=by
 unfold getD;rw[oO e];show(if isKey 78 (bD (k x))=true then dv _ (bD (k x)) else none)=_;rw[if_pos (rT _),qe,vW nd h];rfl
def F9 {a b d:GE}{x z:D}(hd:d Z M=.ok z M1)(h:a Z M1=.ok (.fn o) M1)(u:b Z M1=.ok x M1)(e:c4 M1 o=some q)(hk:isKey q.1 x=true)(hl:q.2.length<1000000):kj a b d Z M=.ok (.next Z) (M1.set (o-5000) (.int q.1::putD q.2 x z)):=by
 unfold kj;rw[hd];show(a Z M1).bind _=_;rw[h];show(b Z M1).bind _=_;rw[u];show(match c4 M1 o with|some q=>if isKey q.1 x=true/\q.2.length<1000000 then Res.ok (Fl.next Z) (M1.set (o-5000) (.int q.1::putD q.2 x z)) else .bad|none=>.bad)=_
 rw[e];exact if_pos ⟨hk,hl⟩
def B7 {M1:Mem}{a b d:GE}(hd:d Z M=.ok (v x) M1)(h:a Z M1=.ok (.fn (au j)) M1)(u:b Z M1=.ok (bD (k x)) M1)(e:M1[j]?=some (nV k v E))(hl:E.length<1000000)(hn:∀e∈E,k e≠k x):kj a b d Z M=.ok (.next Z) (M1.set j (nV k v (E++[x]))):=by
 rw[F9 hd h u (oO e) (rT _) (by rw[OY];exact hl),show au j-5000=j from Pz _ _,JY hn]
 unfold nV;rw[Pn];rfl
def Ko (h:(true != E.any λe=>decide (k e=b))=true):∀e∈E,k e≠b:=λe he z=>by
 rw[show(E.any λe=>decide (k e=b))=true from List.any_eq_true.mpr {e,he,decide_eq_true z}] at h;cases h
def GH (h:(true != E.any λe=>decide (k e=b))=false):∃e∈E,k e=b:=by
 cases z:(E.any λe=>decide (k e=b)) with
 | true =>
   obtain⟨e,he,y⟩:=List.any_eq_true.mp z;exact{e,he,of_decide_eq_true y}
 |false=>rw[z] at h;cases h
end
def cF (m:aJ)(r:List Nat)(b:bP)(q:Nat):Prop:=(∀i∈r,i<m.deeds.length)/\ends m r=b/\ay m r=q
section
variable{m:aJ}{r:List Nat}{b:bP}{q i:Nat}
def cF.nil:cF m [] (aU m) 0:={(λ_ h=>nomatch h),List.map_id _,rfl}
def cF.snoc (h:cF m r b q)(hi:i<m.deeds.length):cF m (r++[i]) (bh m i b) (q+cst m i):=by
 refine{λk hk=>?_,?_,?_}
 ·rcases PL.mp hk with z|z
  ·exact h.1 k z
  ·rw[Pr.mp z];exact hi
 ·rw[<- h.2.1];unfold ends bh;rw[Qi];exact QM λs _=>gA r [i] s
 ·rw[<- h.2.2];show((r++[i]).map _).sum=_;rw[Pn,List.sum_append];rfl
def eO (hm:aC m):∀r:List Nat,(∀i∈r,i<m.deeds.length)->r.length<=ay m r
 |[],_=>QO _
 | a :: r, h => by
   have c:=(i3 hm (h a Pm)).1;have t:=eO hm r λi u=>h i (O6 _ u);show r.length+1<=cst m a+ay m r;omega
def cF.len (hm:aC m)(h:cF m r b q):r.length<=q:=h.2.2 ▸ eO hm r h.1
def cF.rch (h:cF m r b q):jz m q b:=by
 obtain⟨h1,rfl,rfl⟩:=h
 suffices z:∀(u:List Nat),(∀i∈u,i<m.deeds.length)->∀(b:bP) (q:Nat),jz m q b->jz m (q+ay m u) (b.map (bU m u)) by
  have:=z r h1 (aU m) 0 .start;rw[Nat.zero_add] at this;exact this
 intro u;induction u with
 |nil=>intro _ b q h;rw[show b.map (bU m [])=b from List.map_id b];exact h
 | cons a u B =>
   intro h1 b q h;have:=B (λi y=>h1 i (O6 _ y)) _ _ (h.step (h1 a Pm));rw[show ay m (a::u)=cst m a+ay m u from rfl,<- QW];rw[show b.map (bU m (a::u))=(bh m a b).map (bU m u) from by unfold bh;rw[Qi];rfl]
   exact this
end
abbrev F3:=List (bP×Nat×Nat)
noncomputable def vC (e:bP×Nat×Nat):D:=.tup [nD e.2.1,.cell e.2.2]
def i0 (E:F3):List D:=nV (·.1) vC E
def un (E:F3):rA:=E.map λe=>(e.1,e.2.1,[])
def pE (E:F3):(un E).map (·.1)=E.map (·.1):=by unfold un;rw[Qi];rfl
def lu (E N:F3):un (E++N)=un E++un N:=Pn
def G6 (E:F3):(un E).length=E.length:=OY _
def xY:(∃e∈un E,e.1=b)↔∃e∈E,e.1=b:=by
 constructor
 ·rintro⟨x,h,rfl⟩;obtain⟨e,he,rfl⟩:=Pf.mp h;exact⟨e,he,rfl⟩
 ·rintro⟨e,he,rfl⟩;exact{_,Qa he,rfl}
structure jK (B0:Nat) (M0 M:Mem) (m:aJ) (lv fk:Nat) (E:F3) (L:List bP):Prop where
 f:M[fk]?=some (i0 E)
 fl:fk<M0.length
 ll:lv<M0.length
 lo:B0<=M0.length
 l:M[M0.length]?=some (L.map bD)
 r:∀e∈E,(∃r,M[e.2.2]?=some (r.map nD)/\cF m r e.1 e.2.1)/\e.2.2≠fk/\e.2.2≠M0.length/\e.2.2≠lv/\B0<=e.2.2
 k:bc fk M0 M
 nd:(E.map (·.1)).Nodup
def tq (c:Call):GS:=#v[aw (.one 10) (ah 152 c #[aa 7,aa 9]),aL (aq (lV true (aa 10) (aa 2))) #v[kj (aa 2) (aa 10) (bu #[aa 3,ai true .add (aS (iw (aa 2) (aa 9)) (gI 1)) (bt false #[aa 5])]),fC (aa 4) (aa 10),aL (aq (aH .gt (mJ (aa 2)) (gI 255))) #v[di 8 #[mZ "rows have more than " " behaviours" (gI 255)]] aE] aE]
def fW {M:Mem}(e:M[k]?=some x):k<M.length:=(OV.mp e).1
def kG (h:a Z M=.ok x M1)(es:s Z M1=.ok xs M2):b7 a s Z M=.ok (x::xs) M2:=by
 unfold b7;rw[h];show(s Z M1).bind _=_;rw[es];rfl
def j0 (h:a Z M=.ok x M)(j:b Z M=.ok y M):ai k o a b Z M=gg k o x y M:=by
 unfold ai;rw[h];show(b Z M).bind _=_;rw[j];rfl
def ym (e:s Z M=.ok xs M1)(hl:xs.length<=100):bu s Z M=.ok (.tup xs) M1:=by
 unfold bu;rw[e];exact if_pos (aG `a)
section
variable{P:Nat->Option Df}{M0 M:Mem}{m:aJ}{lk lv fk p i B0:Nat}{E:F3}{L:List bP}{b:bP}{x0 x1 x6 x8 x10:Option D}
def Ke (h152:P 152=some {2,2,dC})(n:Nat)(hm:aC m)(hE:E.length<=255)(s:jK B0 M0 M m lv fk E L)(hL:L.length<=255)(Y:M[lk]?=some (dM m (bQ m i)))(hp:p<=900)(hi:i<m.deeds.length)
 (hl:b.length<=16) (hb:∀s∈b,d7 m s) (O:∃e∈E,e.1=b/\e.2.1+cst m i=p) :
 ae (tq (ag P (n+1)) [x0,x1,some (.fn (au fk)),some (nD p),some (.cell M0.length),some (nD i),x6,some (.fn (au lk)),x8,some (bD b),x10] M) λfl M'=>
  ((∃e∈E,e.1=bh m i b)/\M'=M/\fl=.next [x0,x1,some (.fn (au fk)),some (nD p),some (.cell M0.length),some (nD i),x6,some (.fn (au lk)),x8,some (bD b),some (bD (bh m i b))])\/
  ((∀ e ∈ E, e.1 ≠ bh m i b) /\ ∃ c, jK B0 M0 M' m lv fk (E ++ [(bh m i b, p, c)]) (L ++ [bh m i b]) /\
    ((E.length < 255 /\ fl = .next [x0, x1, some (.fn (au fk)), some (nD p), some (.cell M0.length), some (nD i), x6, some (.fn (au lk)), x8, some (bD b), some (bD (bh m i b))]) \/
     (E.length=255/\∃Z,fl=.exc (.exc 8 none) Z))):=by
 refine bo (bJ (x:=bD (bh m i b)) ((bg (af rfl (af rfl rfl))).trans (yD h152 n Y hm hl hb))) ?_;refine cf (cZ (JZ rfl rfl (LS s.f))) (λI=>?_) λI=>.inl {GH I,rfl,rfl};have B:=Ko I;obtain⟨e,he,S,ep⟩:=O;obtain⟨⟨r,er,ro⟩,_⟩:=s.r e he;have hr:=ro.len hm;have u:=fW s.l;have U:=ua s.f s.nd he;rw[S] at U;have e1:(M++[(r++[i]).map nD])[fk]?=some (i0 E):=by rw[O4 (fW s.f)];exact s.f
 have ev:bu #[aa 3,ai true .add (aS (iw (aa 2) (aa 9)) (gI 1)) (bt false #[aa 5])] [x0,x1,some (.fn (au fk)),some (nD p),some (.cell M0.length),some (nD i),x6,some (.fn (au lk)),x8,some (bD b),some (bD (bh m i b))] M=.ok (vC (bh m i b,p,M.length)) (M++[(r++[i]).map nD]):=by
  refine ym (kG rfl (kG ?_ rfl)) (P9 rfl);refine(j0 (dj (tW (x:=.non) rfl rfl U) rfl rfl) (zu (af rfl rfl) (P9 rfl))).trans ?_;show(match M[e.2.2]?,(some [nD i]:Option (List D)) with|some x,some y=>a7 true (x++y) M|_,_=>.bad)=_
  rw[er];show(if (r.map nD++[nD i]).length<=sz then _ else _)=_;rw[if_pos (aG `o),Pn];rfl
 refine fS (M':=(M++[(r++[i]).map nD]).set fk (i0 (E++[(bh m i b,p,M.length)]))) (B7 ev rfl rfl e1 `a B) ?_
 have W:=Pu s.fl;have F:((M++[(r++[i]).map nD]).set fk (i0 (E++[(bh m i b,p,M.length)])))[M0.length]?=some (L.map bD):=by rw[O5 W,O4 u];exact s.l
 refine fS (Kn rfl rfl F (by rw[OY];exact Ri hL `d)) ?_
 generalize v:((M++[(r++[i]).map nD]).set fk (i0 (E++[(bh m i b,p,M.length)]))).set M0.length (L.map bD++[bD (bh m i b)])=M';have old:∀{j:Nat}{x:List D},j≠fk->j≠M0.length->M[j]?=some x->M'[j]?=some x:=λ{j x} h1 h2 e=>by
  rw[<- v,O5 (Qk h2),O5 (Qk h1),O4 (fW e)];exact e
 have s2:jK B0 M0 M' m lv fk (E++[(bh m i b,p,M.length)]) (L++[bh m i b]):=by
  refine{?_,s.fl,s.ll,s.lo,?_,λX J=>?_,{?_,λj hj n=>?_},?_}
  ·rw[<- v,O5 (Qk W),Py (by simp;exact Ra (fW s.f))]
  ·rw[<- v,Py `o,Pn];rfl
  ·rcases PL.mp J with z|z
   ·obtain⟨⟨r',H,R⟩,k1,k2,k3⟩:=s.r X z;exact{{r',old k1 k2 H,R},k1,k2,k3}
   ·obtain rfl:=Pr.mp z;refine{{r++[i],?_,?_},PX (fW s.f),PX u,PX (Nat.lt_trans s.ll u),Pa s.lo (Q4 u)}
    ·rw[<- v,O5 (Pu u),O5 (Pu (fW s.f))];simp
    ·have:=ro.snoc hi;rw[ep,S] at this;exact this
  ·rw[<- v];have:=s.k.len;simp;omega
  ·rw[<- v,O5 `a,O5 (Qk n),O4 `a];exact s.k.at' j hj n
  ·rw[Pn,List.nodup_append];exact{s.nd,`s,λx hx y Q z=>by
    obtain⟨w,hw,rfl⟩:=Pf.mp hx;have Q:y=bh m i b:=by simpa using Q
    exact B w hw (z.trans Q)}
 refine cf (Jr (Gd rfl (oO s2.f)) rfl) (λh=>?_) λh=>?_
 ·have h:=of_decide_eq_true h;simp only[aM,Bd];refine bO.mpr ?_;rw[LM rfl `d `d `d,bS]
  refine{aG `d,.inr {B,_,s2,.inr {?_,_,rfl}}}
  simp at h;omega
 ·have h:=of_decide_eq_false h;refine .inr {B,_,s2,.inl {?_,rfl}};simp at h;omega
end
section
variable{P:Nat->Option Df}{M0 M:Mem}{m:aJ}{lk lv fk p i B0:Nat}{E0:F3}{A:List bP}{x8:D}{S:bP->Prop}{x0 x1 x6 x9 x10:Option D}
def vI (h:uM M0 fk x8 A)(k:bc fk M0 M):bR M x8=some (A.map bD):=by
 rcases h with rfl|⟨c,rfl,j,e⟩
 ·rfl
 ·exact k.get e j
def FW (h152:P 152=some {2,2,dC})(n:Nat)(hm:aC m)(hi:i<m.deeds.length)(ek:M0[lk]?=some (dM m (bQ m i)))(hk:lk≠fk)(R:uM M0 fk x8 A)(U:∀b∈A,∃e∈E0,e.1=b/\e.2.1+cst m i=p)(hok:∀b∈A,b.length<=16/\∀s∈b,d7 m s)(hp:p<=900)
 (s:jK B0 M0 M m lv fk (E0++N) (N.map (·.1))) (h:NW p (un E0) S (un N)) (hl:(E0++N).length<=255)
 (k1:∀M' u J v,jK B0 M0 M' m lv fk (E0++u) (u.map (·.1))->NW p (un E0) (λb=>S b\/b∈A.map (bh m i)) (un u)->(E0++u).length<=255->kf (.next [x0,x1,some (.fn (au fk)),some (nD p),some (.cell M0.length),some (nD i),x6,some (.fn (au lk)),some x8,J,v]) M')
 (k2:∀Z M',bc fk M0 M'->rq p (un E0) (λb=>S b\/b∈A.map (bh m i))->kf (.exc (.exc 8 none) Z) M') :
 ae (dz (.one 9) (dA (aa 8)) (tq (ag P (n+1))) [x0,x1,some (.fn (au fk)),some (nD p),some (.cell M0.length),some (nD i),x6,some (.fn (au lk)),some x8,x9,x10] M) kf:=by
 simp only[gR,mq,bp];refine{_,rfl,by rcases R with rfl|⟨c,rfl,_⟩<;>rfl,?_}
 refine vS (ds:=A.map bD) (λj Z M'=>∃u J v,jK B0 M0 M' m lv fk (E0++u) (u.map (·.1))/\NW p (un E0) (λb=>S b\/b∈(A.take j).map (bh m i)) (un u)/\(E0++u).length<=255/\Z=[x0,x1,some (.fn (au fk)),some (nD p),some (.cell M0.length),some (nD i),x6,some (.fn (au lk)),some x8,J,v])
  (λfl M'=>(∃Z,fl=.exc (.exc 8 none) Z)/\bc fk M0 M'/\rq p (un E0) (λb=>S b\/b∈A.map (bh m i))) ?_ ?_ ?_ {N,x9,x10,s,?_,hl,rfl} ?_ ?_ ?_
 ·rintro fl M' ⟨⟨Z,rfl⟩,_⟩ ρ' z;cases z
 ·rintro j Z M' ⟨u,_,_,I,_⟩;exact vI R I.k
 ·rintro fl M' ⟨_,k,_⟩;exact vI R k
 ·exact{h.nd,λx F=>{.inl (h.fr x F).1,(h.fr x F).2},λb L=>L.elim (h.al b) λz=>by simp at z}
 ·rintro j x Z M' hd ⟨u,J,v,I,Q,B,rfl⟩;rw[Pt] at hd;cases e:A[j]? with
  |none=>rw[e] at hd;cases hd
  | some b =>
    rw[e] at hd;have hd:=O2 hd;subst hd;have L:=PZ e;refine{_,rfl,?_};obtain⟨e0,W,eb,ep⟩:=U b L;have H:∀x,(S x\/x∈(A.take (j+1)).map (bh m i))↔((S x\/x∈(A.take j).map (bh m i))\/x=bh m i b):=λx=>by
     rw[Qq,e];simp[or_assoc]
    have O:∀x,(S x\/x∈(A.take (j+1)).map (bh m i))->(S x\/x∈A.map (bh m i)):=λx F=>F.imp id λz=>by
     obtain⟨y,hy,rfl⟩:=Pf.mp z;exact Qa (PY hy)
    refine aQ (Ke h152 n hm B I (by rw[OY];simp at B;omega) (I.k.get ek hk) hp hi (hok b L).1 (hok b L).2 {e0,Qh _ W,eb,ep}) ?_
    rintro fl M' (⟨hin,rfl,rfl⟩|⟨hno,c,s2,hh⟩)
    ·exact .inl {_,rfl,u,_,_,I,Q.old H (by rw[<- lu];exact xY.mpr hin),B,rfl}
    ·have E:=Q.new H (r:=[]) (λx F z=>by
      rw[<- lu] at F;obtain⟨e2,X,z2⟩:=xY.mp ⟨x,F,z⟩;exact hno e2 X z2) (QO _)
     rw[show un u++[(bh m i b,p,[])]=un (u++[(bh m i b,p,c)]) from(lu u [(bh m i b,p,c)]).symm] at E;rw[Qp,show u.map (·.1)++[bh m i b]=(u++[(bh m i b,p,c)]).map (·.1) from by rw[Pn];rfl] at s2
     rcases hh with⟨hlt,rfl⟩|⟨Y,Z,rfl⟩
     ·exact .inl {_,rfl,_,_,_,s2,E,by simp at hlt ⊢;omega,rfl}
     ·exact .inr {{_,rfl},s2.k,_,E.nd,λx F=>{O _ (E.fr x F).1,(E.fr x F).2.1},by rw[<- lu,G6];simp at Y ⊢;omega}
 ·rintro Z M' ⟨u,J,v,I,Q,B,rfl⟩;rw[OY,Pw (OZ _)] at Q;exact k1 M' u J v I Q B
 ·rintro fl M' ⟨⟨Z,rfl⟩,k,ov⟩;exact k2 Z M' k ov
end
structure kY (B0:Nat) (M:Mem) (m:aJ) (L0 lv fk:Nat) (E:F3) (lvs:List D) (p:Nat) (Ls:Nat->List bP):Prop where
 f:M[fk]?=some (i0 E)
 l:M[lv]?=some lvs
 ne:lv≠fk
 len:lvs.length=p
 lvl:∀q x,lvs[q]?=some x->uM M fk x (Ls q)
 led:∀i,i<m.deeds.length->M[L0+i]?=some (dM m (bQ m i))/\L0+i≠fk/\L0+i≠lv
 lvn:∀(q c:Nat),lvs[q]?=some (D.cell c)->c≠lv
 row:∀e∈E,(∃r,M[e.2.2]?=some (r.map nD)/\cF m r e.1 e.2.1)/\e.2.2≠fk/\e.2.2≠lv/\B0<=e.2.2
 lo:B0<=fk
 lss:∀q,q<p->∀b,b∈Ls q↔bw m q b
 all:fe m p ((un E).map pr)
 few:E.length<=255
def C5 (c:Call):GS:=#v[aw (.one 8) (fZ (aq (aH .le (aa 6) (aa 3))) (aS (aa 1) (ai false .sub (aa 3) (aa 6))) (bt false bx)),dz (.one 9) (dA (aa 8)) (tq c)]
section
variable{P:Nat->Option Df}{M:Mem}{m:aJ}{L0 lv fk p B0:Nat}{E0:F3}{lvs:List D}{Ls:Nat->List bP}
set_option tactic.hygienic true in
def A6 (hbn:∀c,bn c=#v[aw (.one 3) (aA .len #[aa 1]),aw (.one 4) (bt true bx),dz (.two 5 [6,7]) (ir (aa 0)) (C5 c),aD (aa 4)])(h152:P 152=some {2,2,dC})(hnx:P nx=some {3,11,bn})(n:Nat)(hm:aC m)(hp:p<=900)(s:kY B0 M m L0 lv fk E0 lvs p Ls) :
 dW (ag P (n+2) nx [cj m L0,.cell lv,.fn (au fk)] M) (λd M'=>d=.cell M.length/\∃N,jK B0 M M' m lv fk (E0++N) (N.map (·.1))/\NW p (un E0) (jg m p Ls m.deeds.length) (un N)/\(E0++N).length<=255)
  (λx M'=>x=.exc 8 none/\rq p (un E0) (jg m p Ls m.deeds.length)/\bc fk M M'):=by
 refine kJ hnx rfl ?_;show ae (bn (ag P (n+1)) [some (cj m L0),some (.cell lv),some (.fn (au fk)),none,none,none,none,none,none,none,none] M) _;rw[hbn];have hf:=fW s.f;have hlv:=fW s.l;have W:(E0.map (·.1)).Nodup:=by have:=s.all.nd;rw[mB,pE] at this;exact this
 have el:aA .len #[aa 1] [some (cj m L0),some (.cell lv),some (.fn (au fk)),none,none,none,none,none,none,none,none] M=.ok (nD p) M:=by
  refine ak (dH.mpr ?_);rw[af rfl rfl,bS];show ae (match M[lv]? with|some xs=>Res.ok (D.int xs.length) M|none=>.bad) _
  rw[s.l];exact{by show D.int (lvs.length:Int)=_;rw[s.len],rfl}
 refine bo (bJ el) ?_;refine fS rfl ?_;rw[aM];simp only[gR,G0,bp];refine{_,rfl,rfl,?_};have start:jK B0 M (M++[[]]) m lv fk (E0++[]) []:=by
  rw[Qr];refine{by rw[O4 hf];exact s.f,hf,hlv,Pa s.lo (Q4 hf),`s,λe he=>?_,bc.app,W}
  obtain⟨⟨r,er,ro⟩,h1,h2⟩:=s.row e he;have:=fW er;exact{{r,by rw[O4 this];exact er,ro},h1,Pu this,h2}
 have F:∀q,q<p->∀b∈Ls q,(∃e∈E0,e.1=b/\e.2.1=q)/\b.length<=16/\∀s∈b,d7 m s:=λq Q b u=>by
  have lb:=(s.lss q Q b).mp u;have ok:=yT hm lb.1;refine{?_,by rw[ok.1];exact kL hm,ok.2}
  have:=s.all.all q b Q lb;unfold un at this;rw[Qi] at this;obtain⟨e,he,z⟩:=Pf.mp this;cases z;exact⟨e,he,rfl,rfl⟩
 refine vS (λi H M'=>∃N y5 y6 y7 X Y B,jK B0 M M' m lv fk (E0++N) (N.map (·.1))/\NW p (un E0) (jg m p Ls i) (un N)/\(E0++N).length<=255/\H=[some (cj m L0),some (.cell lv),some (.fn (au fk)),some (nD p),some (.cell M.length),y5,y6,y7,X,Y,B])
  (λfl M'=>(∃H,fl=.exc (.exc 8 none) H)/\bc fk M M'/\rq p (un E0) (jg m p Ls m.deeds.length)) ?_ (λ_ _ _ _=>rfl) (λ_ _ _=>rfl) {[],none,none,none,none,none,none,start,?_,?_,rfl} ?_ ?_ ?_
 ·rintro fl M' ⟨⟨H,rfl⟩,_⟩ ρ' z;cases z
 ·exact{by rw[show un []=[] from rfl,Qr,pE];exact W,(λx I=>nomatch I),λb ⟨i,O,_⟩=>absurd O (Rh _)}
 ·rw[Qr];exact s.few
 ·rintro i x H M' I ⟨N,y5,y6,y7,X,Y,B,s',nw,hl,rfl⟩;obtain⟨x2,J,rfl⟩:=F0 I;rw[Pt] at J;have O:i<m.deeds.length:=by
   have:=(OV.mp I).1;rw[nS] at this;simpa using this
  rw[List.getElem?_range O] at J;cases J;rw[Nat.zero_add];refine{_,rfl,?_};obtain⟨hk1,hk2,_⟩:=s.led i O;have cok:=i3 hm O;have v:∀b,(jg m p Ls i b\/b∈(iC m p Ls i).map (bh m i))↔jg m p Ls (i+1) b:=λb=>by
   constructor
   ·rintro(⟨j,hj,h⟩|h)
    ·exact{j,Ra hj,h}
    ·exact{i,Nat.lt_succ_self _,h}
   ·rintro⟨j,hj,h⟩;rcases Nat.lt_or_ge j i with z|z
    ·exact .inl ⟨j,z,h⟩
    ·have:j=i:=`a
     subst this;exact .inr h
  have hx8:∃x8,fZ (aq (aH .le (aa 6) (aa 3))) (aS (aa 1) (ai false .sub (aa 3) (aa 6))) (bt false bx) [some (cj m L0),some (.cell lv),some (.fn (au fk)),some (nD p),some (.cell M.length),some (nD i),some (nD (cst m i)),some (.fn (au (L0+i))),X,Y,B] M'=.ok x8 M'/\uM M fk x8 (iC m p Ls i):=by
   have U:aq (aH .le (aa 6) (aa 3)) [some (cj m L0),some (.cell lv),some (.fn (au fk)),some (nD p),some (.cell M.length),some (nD i),some (nD (cst m i)),some (.fn (au (L0+i))),X,Y,B] M'=.ok (decide ((cst m i:Int)<=(p:Int))) M':=by
    exact fM (fQ.mpr (eJ.mpr (bp.mpr {_,rfl,bp.mpr {_,rfl,_,rfl,_,rfl,rfl,rfl}})))
   by_cases L:cst m i<=p
   ·have Q:p-cst m i<lvs.length:=by rw[s.len];omega
    refine{lvs[p-cst m i],iI U (λ_=>?_) (λz=>absurd `a (of_decide_eq_false z)),?_}
    ·refine dj (y:=nD (p-cst m i)) rfl ?_ ?_
     ·refine ak (jw.mpr (bp.mpr {_,rfl,bp.mpr {_,rfl,Hq.mpr {?_,rfl}}}))
      congr 1;omega
     ·show(M'[lv]?).bind _=_;rw[s'.k.get s.l s.ne];show((b6 lvs.length ((p-cst m i:Nat):Int)).bind λj=>lvs[j]?)=_;rw[eM Q];exact Pd Q
    ·have:=s.lvl _ _ (Pd Q);unfold iC;rw[if_pos L];exact this
   ·refine{.lst [],iI U (λz=>absurd (of_decide_eq_true z) `a) (λ_=>zu rfl `d),?_}
    unfold iC;rw[if_neg L];exact .inl rfl
  obtain⟨x8,e8,l8⟩:=hx8;refine bo (bJ e8) ?_;rw[aM];have R:∀b∈iC m p Ls i,cst m i<=p/\b∈Ls (p-cst m i):=λb u=>by
   unfold iC at u;split at u
   ·next L=>exact⟨L,u⟩
   ·exact nomatch u
  refine FW h152 n hm O hk1 hk2 l8 (λb u=>?_) (λb u=>?_) hp s' nw hl (λM2 N' z9 z10 s2 E hl'=>?_) λH M2 k2 ov=>?_
  ·obtain⟨L,h2⟩:=R b u;obtain⟨e,he,eb,eq⟩:=(F _ `a b h2).1
   exact{e,he,eb,`a}
  ·obtain⟨L,h2⟩:=R b u;exact(F _ `a b h2).2
  ·refine .inl {_,rfl,N',_,_,_,_,_,_,s2,?_,hl',rfl};exact{E.nd,λx I=>{(v _).mp (E.fr x I).1,(E.fr x I).2},λb u=>E.al b ((v b).mpr u)}
  ·refine .inr {{_,rfl},k2,ov.mono λb u=>?_};obtain⟨j,hj,h⟩:=(v b).mp u;exact{j,`a,h}
 ·rintro H M' ⟨N,y5,y6,y7,X,Y,B,s',nw,hl,rfl⟩;rw[nS,OY,Ql] at nw;exact bC.mpr (gz rfl ⟨rfl,N,s',nw,hl⟩)
 ·rintro fl M' ⟨⟨H,rfl⟩,k,ov⟩;exact⟨rfl,ov,k⟩
end
section
variable{M M':Mem}{m:aJ}{L0 lv fk p B0:Nat}{E0 N:F3}{lvs:List D}{Ls:Nat->List bP}{Z:Env}
set_option tactic.hygienic true in
def kY.next (hm:aC m)(H:0<p)(s:kY B0 M m L0 lv fk E0 lvs p Ls)(h:jK B0 M M' m lv fk (E0++N) (N.map (·.1)))(L:NW p (un E0) (jg m p Ls m.deeds.length) (un N))(hl:(E0++N).length<=255) :
 kY B0 (M'.set lv (lvs++[.cell M.length])) m L0 lv fk (E0++N) (lvs++[.cell M.length]) (p+1) (lsN Ls p (N.map (·.1))):=by
 obtain⟨h1,h2⟩:=FP hm H s.lss s.all L;rw[pE] at h2;rw[<- lu] at h1;have I:=Pj h.ll h.k.len;have old:∀{c:Nat}{x:List D},c≠fk->c≠lv->M[c]?=some x->(M'.set lv (lvs++[.cell M.length]))[c]?=some x:=λn1 n2 e=>by
  rw[O5 (Qk n2)];exact h.k.get e n1
 refine{?_,Py I,s.ne,by simp[s.len],λq x j=>?_,λi F=>?_,λq c u=>?_,λe he=>?_,s.lo,λq v b=>?_,h1,hl}
 ·rw[O5 s.ne];exact h.f
 ·rcases Nat.lt_or_ge q p with z|z
  ·rw[O4 (by rw[s.len];exact z)] at j
   unfold lsN;rw[if_neg `a]
   rcases s.lvl q x j with y|⟨c,y,n1,e⟩
   ·exact .inl y
   ·exact .inr {c,y,n1,old n1 (s.lvn q c (y ▸ j)) e}
  ·have v:q=p:=by
    have:=(OV.mp j).1;simp[s.len] at this;omega
   subst v;rw[Pp (by rw[s.len];exact OZ _),s.len,Nat.sub_self] at j
   cases j;unfold lsN;rw[if_pos rfl];refine .inr {_,rfl,PX h.fl,?_};rw[O5 (Pu h.ll)];exact h.l
 ·obtain⟨e1,e2,B⟩:=s.led i F;exact{old e2 B e1,e2,B}
 ·rcases Nat.lt_or_ge q p with z|z
  ·rw[O4 (by rw[s.len];exact z)] at u
   exact s.lvn q c u
  ·have v:q=p:=by
    have:=(OV.mp u).1;simp[s.len] at this;omega
   subst v;rw[Pp (by rw[s.len];exact OZ _),s.len,Nat.sub_self] at u
   cases u;exact PX h.ll
 ·obtain⟨⟨r,er,ro⟩,n1,_,E,J⟩:=h.r e he;exact{{r,by rw[O5 (Qk E)];exact er,ro},n1,E,J}
 ·unfold lsN;split
  ·next z=>rw[z];exact h2 b
  ·next z=>exact s.lss q `a b
def Ai (s:kY B0 M m L0 lv fk E0 lvs p Ls)(F:p<=900)(hi:Z[i]?.getD none=some (.cell lv)):∃b:Bool,aq (p7 (bN false true false (aa i) (fh (gI 3)) gN)) Z M=.ok b M/\(b=false->∀q,q<p->p<=q+3->Ls q=[])/\(b=true->∃q,q<p/\p<=q+3/\Ls q≠[]):=by
 have y:bN false true false (aa i) (fh (gI 3)) gN Z M=.ok (.lst (lvs.drop (p-3))) M:=by
  refine ak (f7.mpr (bp.mpr {_,hi,xo.mpr (fN.mpr {3,rfl,fN.mpr {rfl,rfl,?_}})}));show ae (match M[lv]? with|some xs=>(match aK xs.length 0 (.int (-3)),aK xs.length xs.length .non with|some l,some h=>a7 false (cut xs l h) M|_,_=>.bad)|none=>.bad) _
  rw[s.l];show ae (a7 false (cut lvs (-3+(lvs.length:Int)).toNat lvs.length) M) _;have hl:=s.len;have e1:(-3+(lvs.length:Int)).toNat=p-3:=`a
  have e2:cut lvs (p-3) lvs.length=lvs.drop (p-3):=by
   exact Pw `s
  rw[e1,e2];exact bT.mpr {aG `o,rfl,rfl}
 refine{((List.range (lvs.drop (p-3)).length).map λj=>!(Ls (p-3+j)).isEmpty).any id,?_,λh q H E=>?_,λh=>?_}
 ·refine cZ ?_;unfold p7;rw[y];show(match ji M (lvs.drop (p-3)) with|some bs=>Res.ok (D.bl (bs.any id)) M|none=>.bad)=_
  rw[uX (g:=λq=>!(Ls q).isEmpty) λj x u=>?_];rw[List.getElem?_drop] at u;exact I8 (s.lvl _ x u)
 ·have z:=List.any_eq_false.mp h;have h1:=z (!(Ls q).isEmpty) (Pf.mpr {q-(p-3),?_,?_})
  ·cases e:(Ls q) with
   |nil=>rfl
   |cons a l=>rw[e] at h1;exact absurd rfl h1
  ·rw[QP,Qv,s.len];omega
  ·rw[show p-3+(q-(p-3))=q by omega]
 ·obtain⟨x,u,v⟩:=List.any_eq_true.mp h;obtain⟨j,B,rfl⟩:=Pf.mp u;rw[QP,Qv,s.len] at B;refine{p-3+j,`a,`a,λz=>?_}
  rw[z] at v;cases v
def Mf {c:Int}(h:c=77\/c=78)(h1:gk Z (M++[[D.int c]])=.ok x (M++[[D.int c]]))(h2:gv Z (M++[[D.int c]])=.ok y (M++[D.int c]::X))(hk:isKey c x=true):vQ c gk gv Z M=.ok (.fn (au M.length)) (M++[D.int c,D.tup [x,y]]::X):=by
 unfold vQ;rw[h1];show(gv Z (M++[[D.int c]])).bind _=_;rw[h2];have e:c4 (M++[D.int c]::X) (au M.length)=some (c,[]):=oP `s h
 show(match c4 (M++[D.int c]::X) (au M.length) with|some q=>if isKey q.1 x=true/\q.2.length<1000000 then Res.ok (D.fn (au M.length)) ((M++[D.int c]::X).set (au M.length-5000) (.int q.1::putD q.2 x y)) else .bad|none=>.bad)=_
 rw[e];show(if isKey c x=true/\0<1000000 then Res.ok (D.fn (au M.length)) ((M++[D.int c]::X).set (au M.length-5000) (.int c::putD [] x y)) else .bad)=_;rw[if_pos {hk,`d},show au M.length-5000=M.length from Pz _ _,List.set_append_right _ _ (OZ _),Nat.sub_self]
 rfl
end
noncomputable def rj:Option Nat->D
 |none=>.non
 |some b=>nD b
def AllIn (m:aJ):Option Nat->List (bP×Nat)->Prop
 |some b,A=>fe m (b+1) A
 |none,A=>∃p,fe m p A/\∀q,p<=q->∀b,¬ bw m q b
def cm (m:aJ):Option Nat->Prop
 |some b=>qr m (b+1)
 |none=>∃p,qr m p
def pB (m:aJ)(h:Nat)(M:Mem)(E:F3):Prop:=∀e∈E,(∃r,M[e.2.2]?=some (r.map nD)/\cF m r e.1 e.2.1)/\h<=e.2.2
section
variable{P:Nat->Option Df}{M:Mem}{m:aJ}{bd:Option Nat}
set_option tactic.hygienic true in
def yB (hbn:∀c,bn c=#v[aw (.one 3) (aA .len #[aa 1]),aw (.one 4) (bt true bx),dz (.two 5 [6,7]) (ir (aa 0)) (C5 c),aD (aa 4)])
 (hbr:∀c,br c=#v[cv (.one 2) (bf 151 c #[aa 0]),aw (.one 3) (aA .tuple #[ah 15 c #[aa 0]]),aw (.one 4) (vQ 78 (aa 3) (bu #[gI 0,bt true bx])),aw (.one 5) (bt true #[bt false #[aa 3]]),gU (d8 (aq (p7 (bN false true false (aa 5) (fh (gI 3)) gN))) (ff (aq (aH .isN (aa 1) gN)) (aq (aH .le (aA .len #[aa 5]) (aa 1))))) #v[mx (aa 5) (bf nx c #[aa 2,aa 5,aa 4])],aD (aa 4)])
 (hb:HasB0 P) (hr:jB P) (h15:P 15=some {1,6,bG}) (h151:P 151=some {1,2,dw}) (h152:P 152=some {2,2,dC}) (hnx:P nx=some {3,11,bn}) (hrc:P rc=some {2,6,br}) (n:Nat) (hm:aC m) (hbd:∀b,bd=some b->b<=70) :
 dW (ag P (n+11) rc [m.d,rj bd] M) (λd M'=>∃fk E,d=.fn (au fk)/\M.length<=fk/\M'[fk]?=some (i0 E)/\pB m M.length M' E/\AllIn m bd ((un E).map pr)/\E.length<=255/\Sub M M') (λx M'=>x=.exc 8 none/\cm m bd/\Sub M M'):=by
 refine kJ hrc rfl ?_;show ae (br (ag P (n+10)) [some m.d,some (rj bd),none,none,none,none] M) _;rw[hbr];refine fS (v9 ((dh (af rfl rfl)).trans (sD hb hr h15 h151 n hm))) ?_;have et:aA .tuple #[ah 15 (ag P (n+10)) #[aa 0]] [some m.d,some (rj bd),some (cj m M.length),none,none,none] (M++m.deeds.map (dM m))=.ok (bD (aU m)) (M++m.deeds.map (dM m)):=by
  refine ak (dH.mpr ?_);rw[af ((bg (af rfl rfl)).trans (jN hb h15 (n+1) hm)) rfl,bS];exact⟨rfl,rfl⟩
 refine fS (jb et) ?_;generalize J:M++m.deeds.map (dM m)=h;have ev:bu #[gI 0,bt true bx] [some m.d,some (rj bd),some (cj m M.length),some (bD (aU m)),none,none] (h++[[D.int 78]])=.ok (.tup [.int 0,.cell (h.length+1)]) (h++[D.int 78]::[[]]):=by
  refine ym (kG rfl (kG ?_ rfl)) (P9 rfl);show Res.ok (D.cell (h++[[D.int 78]]).length) ((h++[[D.int 78]])++[[]])=_;rw[O9,Qp];rfl
 refine fS (jb (Mf (.inr rfl) rfl ev (rT _))) ?_;generalize y:h++[D.int 78,D.tup [bD (aU m),D.tup [D.int 0,D.cell (h.length+1)]]]::[[]]=v;refine fS rfl ?_;have l1:h.length=M.length+m.deeds.length:=by rw[<- J];simp
 have l2:v.length=h.length+2:=by rw[<- y];simp
 have s1:Sub M (v++[[.lst [bD (aU m)]]]):=by rw[<- y,<- J,Qp,Qp];exact Sub.app
 have start:kY M.length (v++[[.lst [bD (aU m)]]]) m M.length v.length h.length [(aU m,0,h.length+1)] [.lst [bD (aU m)]] 1 (λ_=>[aU m]):=by
  refine{?_,`s,`a,rfl,λq x S=>?_,λi hi=>?_,λq c hc=>?_,?_,`a,λq hq b=>?_,{by simp[un],λx S=>?_,λq b hq hl=>?_},P9 rfl}
  ·rw[O4 `a,<- y,Pp (OZ _),Nat.sub_self];rfl
  ·cases q with
   |zero=>cases S;exact .inl rfl
   |succ q=>simp at S
  ·refine{?_,`a,`a}
   rw[O4 `a,<- y,O4 `a,<- J,Pp `a]
   rw[Pz,Pt,Pd hi];rw[<- qg (Pd hi)];rfl
  ·cases q with
   |zero=>cases hc
   |succ q=>simp at hc
  ·intro e he;obtain rfl:=Pr.mp he;refine{{[],?_,cF.nil},by show h.length+1≠h.length;omega,by show h.length+1≠v.length;omega,by show M.length<=h.length+1;omega}
   rw[O4 (by show h.length+1<v.length;omega),<- y,Pp (by show h.length<=h.length+1;omega)]
   rw[Pz];rfl
  ·have:q=0:=`a
   subst this;rw[iq hm];exact Pr
  ·have S:=Pr.mp S;subst S;exact{(iq hm).mpr rfl,Nat.zero_lt_one}
  ·have:q=0:=`a
   subst this;rw[(iq hm).mp hl];exact Pr.mpr rfl
 rw[aM];refine sI (λk Z M'=>∃p E H Ls g,k=900-p/\1<=p/\(∀b,bd=some b->p<=b+1)/\g<=3/\p+2<=3*E.length+g/\(∀q,q<p->p<=q+g->Ls q=[])/\kY M.length M' m M.length v.length h.length E H p Ls/\Sub M M'/\Z=[some m.d,some (rj bd),some (cj m M.length),some (bD (aU m)),some (.fn (au h.length)),some (.cell v.length)]) ?_ `a {1,_,_,_,0,rfl,`a,λb _=>`a,`a,P9 rfl,λq h1 h2=>`a,start,s1,rfl}
 rintro k Z M' ⟨p,E,H,Ls,g,rfl,Q,hp2,hg,hpg,Y,s,u,rfl⟩;have few:=s.few;have hp:p<=800:=`a
 obtain⟨b,e1,F,O⟩:=Ai s `a (Z:=[some m.d,some (rj bd),some (cj m M.length),some (bD (aU m)),some (.fn (au h.length)),some (.cell v.length)]) (i:=5) rfl
 have el:aA .len #[aa 5] [some m.d,some (rj bd),some (cj m M.length),some (bD (aU m)),some (.fn (au h.length)),some (.cell v.length)] M'=.ok (nD p) M':=by
  refine ak (dH.mpr ?_);rw[af rfl rfl,bS];show ae (match M'[v.length]? with|some xs=>Res.ok (D.int xs.length) M'|none=>.bad) _
  rw[s.l];exact{by show D.int (H.length:Int)=_;rw[s.len],rfl}
 have e3:∃W:Bool,ff (aq (aH .isN (aa 1) gN)) (aq (aH .le (aA .len #[aa 5]) (aa 1))) [some m.d,some (rj bd),some (cj m M.length),some (bD (aU m)),some (.fn (au h.length)),some (.cell v.length)] M'=.ok W M'/\(W=false->∃B,bd=some B/\p=B+1)/\(W=true->∀B,bd=some B->p<=B):=by
  cases bd with
  |none=>exact{true,rfl,(λz=>by cases z),λ_ B z=>by cases z}
  | some B =>
    have hB:=hp2 B rfl;refine{decide ((p:Int)<=(B:Int)),Lj (x:=false) rfl ?_,λz=>{B,rfl,by have:=of_decide_eq_false z;omega},λz B' e=>by cases e;have:=of_decide_eq_true z;omega}
    refine fM (fQ.mpr (eJ.mpr ?_));rw[el,bS];exact bp.mpr {_,rfl,_,rfl,_,rfl,rfl,rfl}
 obtain⟨W,e4,hno,I⟩:=e3;rw[wa e1 e4,bS];refine{λR=>?_,λR=>?_}
 ·have X:AllIn m bd ((un E).map pr):=by
   have stop:=λhb=>wX hm Q λq' h1 h2 c hl=>by
    have:=(s.lss q' h1 c).mpr hl;rw[F hb q' h1 h2] at this;exact nomatch this
   cases L:W with
   | false =>
     obtain⟨B,rfl,hpB⟩:=hno L;show fe m (B+1) _;rw[<- hpB];exact s.all
   | true =>
     rw[L,Bool.and_true] at R;cases bd with
     |none=>exact{p,s.all,stop R}
     |some B=>exact s.all.mono (by have:=I L B rfl;omega) λq c hq _=>stop R q hq c
  exact bC.mpr (gz rfl {h.length,E,rfl,`a,s.f,λe he=>{(s.row e he).1,(s.row e he).2.2.2},X,few,u})
 ·have hb1:=(QV.mp R).1;have hpb:=I (QV.mp R).2;have hg2:g<=2:=by
   obtain⟨q,h1,h2,h3⟩:=O hb1;rcases Nat.lt_or_ge g 3 with z|z
   ·omega
   ·exact absurd (Y q h1 `a) h3
  refine{900-(p+1),`a,?_}
  rw[aM];have U:=A6 hbn h152 hnx (n+8) hm `a s
  refine GG rfl ?_;rw[dh (af rfl (af rfl (af rfl rfl)))];have sN:∀{M3:Mem},bc h.length M' M3->Sub M M3:=λk=>{Pa u.len k.len,λj hj=>(k.at' j (Pj hj u.len) `a).trans (u.at' j hj)}
  cases e:ag P (n+8+2) nx [cj m M.length,.cell v.length,.fn (au h.length)] M' with
  |bad=>rw[e] at U;exact U.elim
  | err x M3 =>
    rw[e] at U;obtain⟨rfl,ov,kk⟩:=U;refine .inr {(λ_ z=>nomatch z),rfl,?_,sN kk};have mn:=Bu hm Q s.lss s.all ov;cases bd with
    |none=>exact{_,mn}
    |some B=>exact mn.mono (by have:=hpb B rfl;omega)
  | ok d M3 =>
    rw[e] at U;obtain⟨rfl,N,s',nw,hl⟩:=U;refine{H,s'.k.get s.l s.ne,by rw[s.len];exact Ri hp `d,?_}
    have sx:=s.next hm Q s' nw hl
    refine .inl {_,rfl,p+1,E++N,_,_,if N=[] then g+1 else 0,rfl,`a,λB hB=>by have:=hpb B hB;omega,?_,?_,λq h1 h2=>?_,sx,(sN s'.k).setq `a,rfl}
    ·split<;>omega
    ·cases N with
     |nil=>rw[if_pos rfl,Qr];omega
     |cons a N=>rw[if_neg `s,O9,PD];omega
    ·unfold lsN;split
     ·next z=>
      cases N with
      |nil=>rfl
      |cons a N=>rw[if_neg `s] at h2;omega
     ·next z=>
      cases N with
      |nil=>rw[if_pos rfl] at h2;exact Y q `a `a
      |cons a N=>rw[if_neg `s] at h2;omega
end
def EY:ae (cQ false (.lst xs) .non (nD a) M) k↔(xs.take a).length<=sz/\k (.lst (xs.take a)) M:=sF
structure Na where
 place:Nat
 num:Nat
 back:Bool
def Na.d (s:Na):D:=.tup [nD s.place,nD s.num,.bl s.back]
def B3 (hm:aC m)(u:∀i∈x,i<m.deeds.length)(h:ends m a=ends m b):ends m (x++a++y)=ends m (x++b++y):=by
 unfold ends at h ⊢;rw[List.map_inj_left] at h ⊢;intro s hs;have j:=qc hm u (mQ s hs);have mem:=uC hm j;rw[gA,gA,gA,gA,h _ mem]
def sG (u:aX M x r)(hl:r.length<=100000):ae (cQ false x (nD a) (nD (a+b)) M) k↔k (.lst (((r.drop a).take b).map nD)) M:=by
 have e:cQ false x (nD a) (nD (a+b)) M=a7 false (cut (r.map nD) (min a r.length) (min (a+b) r.length)) M:=by
  have e1:aK (r.map nD).length 0 (nD a)=some (min a r.length):=by
   show some _=_;rw[if_neg `a];simp
  have e2:aK (r.map nD).length (r.map nD).length (nD (a+b))=some (min (a+b) r.length):=by
   show some _=_;rw[if_neg `a];simp
   congr 1
  have:cQ false x (nD a) (nD (a+b)) M=match d3 M x with|some xs=>(match aK xs.length 0 (nD a),aK xs.length xs.length (nD (a+b)) with|some l,some h=>a7 false (cut xs l h) M|_,_=>.bad)|none=>.bad:=by
   rcases u with rfl|⟨q,rfl,_⟩<;>rfl
  rw[this,u.rd];dsimp only;rw[e1,e2]
 have c:cut (r.map nD) (min a r.length) (min (a+b) r.length)=((r.drop a).take b).map nD:=by
  unfold cut;rw[List.map_take,List.map_drop];rcases Nat.le_total a r.length with q|q
  ·rw[Q5 q];rcases Nat.le_total (a+b) r.length with j|j
   ·rw[Q5 j];congr 1;omega
   ·rw[Nat.min_eq_right j,Pw `s,Pw `o]
  ·rw[Nat.min_eq_right q,List.drop_eq_nil_of_le `s,List.drop_eq_nil_of_le (by simpa using q)];simp
 rw[e,c,bT];exact{λz=>z.2,λz=>{aG `o,z}}
def qE (j:aX M x r)(hl:r.length<=100000):ae (cQ false x .non (nD a) M) k↔k (.lst ((r.take a).map nD)) M:=by
 have:cQ false x .non (nD a) M=cQ false (.lst (r.map nD)) .non (nD a) M:=by
  have h2:∀y,(y=x\/y=.lst (r.map nD))->cQ false y .non (nD a) M=match d3 M y with|some xs=>(match aK xs.length 0 D.non,aK xs.length xs.length (nD a) with|some l,some h=>a7 false (cut xs l h) M|_,_=>.bad)|none=>.bad:=λy u=>by
   rcases u with rfl|rfl
   ·rcases j with rfl|⟨q,rfl,_⟩<;>rfl
   ·rfl
  rw[h2 x (.inl rfl),h2 _ (.inr rfl),j.rd];rfl
 rw[this,EY,List.map_take];exact{λz=>z.2,λz=>{aG `o,z}}
def mV (j:aX M x r)(hl:r.length<=100000):ae (cQ false x (nD a) .non M) k↔k (.lst ((r.drop a).map nD)) M:=by
 have:cQ false x (nD a) .non M=cQ false (.lst (r.map nD)) (nD a) .non M:=by
  have h2:∀y,(y=x\/y=.lst (r.map nD))->cQ false y (nD a) .non M=match d3 M y with|some xs=>(match aK xs.length 0 (nD a),aK xs.length xs.length D.non with|some l,some h=>a7 false (cut xs l h) M|_,_=>.bad)|none=>.bad:=λy u=>by
   rcases u with rfl|rfl
   ·rcases j with rfl|⟨q,rfl,_⟩<;>rfl
   ·rfl
  rw[h2 x (.inl rfl),h2 _ (.inr rfl),j.rd];rfl
 rw[this];rw[Bb,List.map_drop];exact{λz=>z.2,λz=>{aG `o,z}}
def Gw (j:aX M x a)(u:aX M y b):bB .ne x y M=some (!decide (a=b)):=
 mO (by rw[j.vw];exact sS 63 a) (by rw[u.vw];exact sS 63 b) (by rw[j.vw,u.vw];exact pd a b)
def n9 (M:Mem):∀(n k:Nat) (d:D),aj k d=true->bE n M d=d
 |0,_,_,_=>rfl
 | n + 1, k, d, h => by
   have all:∀(k:Nat) (j:List D),j.all (aj k)=true->j.map (bE n M)=j:=λk j u=>by
    rw[Pk] at u
    conv=>rhs;rw[<- List.map_id j]
    exact QM λd hd=>n9 M n k d (u d hd)
   cases d with
   | tup j =>
     cases k with
     |zero=>simp[aj] at h
     |succ k=>exact congrArg D.tup (all k j (by simpa[aj] using h))
   | lst j =>
     cases k with
     |zero=>simp[aj] at h
     |succ k=>exact congrArg D.lst (all k j (by simpa[aj] using h))
   |frz j=>cases k<;>simp[aj] at h
   |cell q=>cases k<;>simp[aj] at h
   |fn f=>cases k<;>simp[aj] at h
   |exc y p=>cases k<;>simp[aj] at h
   |_=>rfl
def j9 (e:M[q]?=some ds)(h:ds.all (aj k)=true):bE (n+1) M (.cell q)=.lst ds:=by
 have:bE (n+1) M (.cell q)=.lst (ds.map (bE n M)):=by simp[bE,e]
 rw[this]
 congr 1
 rw[Pk] at h
 conv=>rhs;rw[<- List.map_id ds]
 exact QM λd hd=>n9 M n k d (h d hd)
def JB (ha:bE 64 M x=a)(j:bE 64 M y=b)(u:aj 64 a=true)(z:aj 64 b=true)(h:bW a b=v)(hs:∀r,m7 (view M x) (view M y)=some r->r=v):bB .eq x y M=some v/\bB .ne x y M=some (!v):=by
 have e:lh M x y=some v:=by
  unfold lh;cases q:m7 (view M x) (view M y) with
  |some r=>rw[hs r q]
  | none =>
    rw[ha,j];unfold m7;rw[u,z,h];simp
 exact{e,by show(lh M x y).map (!·)=_;rw[e];rfl}
def AllIn.nd {bd:Option Nat}(h:AllIn m bd l):(l.map (·.1)).Nodup:=by
 cases bd with
 |none=>obtain⟨_,h,_⟩:=h;exact h.nd
 |some b=>exact fe.nd h
def AllIn.sound {bd:Option Nat}(h:AllIn m bd l):∀x∈l,bw m x.2 x.1:=by
 cases bd with
 |none=>obtain⟨_,h,_⟩:=h;exact λx j=>(h.sound x j).1
 |some b=>exact λx j=>(fe.sound h x j).1
def mr (E:F3):(un E).map pr=E.map λe=>(e.1,e.2.1):=by unfold un;rw[Qi];rfl
section
variable{P:Nat->Option Df}{M:Mem}{m:aJ}{w:D}{fit:bP->Bool}
def AllIn.mem (h:AllIn m none A):(b,q)∈A↔bw m q b:=by
 refine{λz=>h.sound _ z,λz=>?_};obtain⟨p,h,no⟩:=h;rcases Nat.lt_or_ge q p with j|j
 ·exact h.all q b j z
 ·exact absurd z (no q j b)
def AllIn.few (h:AllIn m none A)(hl:A.length<=255):¬ cm m none:=by
 rintro⟨p,z,v,y,j⟩;have:=len_sub (zj v) λx u=>h.mem.mpr (y x u).1;omega
end
noncomputable def win (r:List Nat)(p l:Nat):List Nat:=(r.drop p).take l
def du (r:List Nat)(p l:Nat)(c:List Nat):List Nat:=r.take p++c++r.drop (p+l)
def bX (m:aJ)(r:List Nat):Prop:=∀i∈r,i<m.deeds.length
structure eK (m:aJ) (w:Nat) (r:List Nat) (p l:Nat) (c:List Nat):Prop where
 l1:1<=l
 lw:l<=w
 pl:p+l<=r.length
 ok:bX m c
 en:ends m c=ends m (win r p l)
 lt:ay m c<ay m (win r p l)
def Calm (m:aJ)(w:Nat)(r:List Nat):Prop:=∀p l,1<=l->l<=w->p+l<=r.length->bw m (ay m (win r p l)) (ends m (win r p l))
def xU (h:p+l<=r.length):du r p l (win r p l)=r:=by
 unfold du win;rw[Qp,<- List.drop_drop,Q7,Q7]
def jL (h:p+l<=r.length):(win r p l).length=l:=by unfold win;rw[PR,Qv];omega
def bX.win (h:bX m r):bX m (win r p l):=λi j=>h i (List.mem_of_mem_drop (PY j))
def bX.put (h:bX m r)(u:bX m c):bX m (du r p l c):=λi j=>by
 unfold du at j;rw[PL,PL] at j;rcases j with(z|z)|z
 ·exact h i (PY z)
 ·exact u i z
 ·exact h i (List.mem_of_mem_drop z)
section
variable{m:aJ}{w p l:Nat}{r c:List Nat}
def sR:ay m (du r p l c)=ay m (r.take p)+ay m c+ay m (r.drop (p+l)):=by unfold du;rw[lY,lY]
def pN (h:p+l<=r.length):ay m (du r p l c)+ay m (win r p l)=ay m r+ay m c:=by
 have e:=congrArg (ay m) (xU h);rw[sR] at e ⊢;omega
def eK.ends (s:eK m w r p l c)(hm:aC m)(hr:bX m r):LD.ends m (du r p l c)=LD.ends m r:=by
 have e:=B3 (x:=r.take p) (y:=r.drop (p+l)) hm (λi h=>hr i (PY h)) s.en;exact e.trans (congrArg (LD.ends m) (xU s.pl))
def eK.less (s:eK m w r p l c):ay m (du r p l c)<ay m r:=by
 have:=pN (m:=m) (c:=c) s.pl;have:=s.lt;omega
end
inductive cK (m:aJ) (w:Nat):List Nat->List (Nat×Nat×List Nat)->List Nat->Prop
 |nil:cK m w r [] r
 |snoc:cK m w r ss t->eK m w t p l c->cK m w r (ss++[(p,l,c)]) (du t p l c)
def b9 (s:Nat×Nat×List Nat):D:=.tup [nD s.1,nD s.2.1,aR s.2.2]
section
variable{m:aJ}{w:Nat}
def cK.num (h:cK m w r ss t)(hr:bX m r):bX m t:=by
 induction h with
 |nil=>exact hr
 |snoc _ s j=>exact j.put s.ok
def cK.ends (h:cK m w r ss t)(hm:aC m)(hr:bX m r):LD.ends m t=LD.ends m r:=by
 induction h with
 |nil=>rfl
 |snoc h s j=>exact(s.ends hm (h.num hr)).trans j
def cK.cost (h:cK m w r ss t):ay m t+ss.length<=ay m r:=by
 induction h with
 |nil=>exact OZ _
 | snoc h s j =>
   have:=s.less;rw[O9,Q8];omega
def g7 (hm:aC m)(hr:bX m r):ay m r<=3*r.length:=by
 induction r with
 |nil=>exact OZ _
 | cons i r u =>
   have h1:=(i3 hm (hr i Pm)).2;have h2:=u λj h=>hr j (O6 _ h);show ay m ([i]++r)<=_;rw[lY,PD];have:ay m [i]=cst m i:=by simp[ay,cst]
   omega
end
structure HasO0 (P:Nat->Option Df):Prop where
 init:P 129=some {3,3,jy}
 beh:P 132=some {1,1,ja}
structure HasO (P:Nat->Option Df):Prop extends HasO0 P where
 row:P 130=some {1,1,pj}
 cost:P 131=some {1,1,nh}
 put:P 133=some {3,3,pq}
 out:P 134=some {2,2,xA}
 back:P 135=some {1,1,uU}
 change:P 136=some {2,2,lq}
 give:P 137=some {2,3,ng}
 summed:P 47=some {2,2,b8}
instance coeHasO {P:Nat->Option Df}:Coe (HasO P) (HasO0 P):=⟨HasO.toHasO0⟩
structure j4 (M:Mem) (k e:Nat) (m:aJ) (r:List Nat) (hs:List (List Nat)):Prop where
 ob:M[k]?=some [.int 40,m.d,aR r,.cell e]
 er:M[e]?=some (hs.map aR)
section
variable{Z:Env}{M M':Mem}{a v:GE}{s:GA}{k i:Nat}{es:List D}{nm:Str}{kf:Fl->Mem->Prop}{rest:GS}
def FX (ob:M[k]?=some (.int 40::es))(hi:(b4 40).findIdx? (·==nm)=some i)(he:es[i]?=some d):t6 M (au k) nm=some d:=by
 unfold t6 au;rw[if_pos (Qg _ _),Pz,ob];show((b4 40).findIdx? (·==nm)).bind _=_;rw[hi];exact he
def t5 (ha:a Z M=.ok (.fn (au k)) M)(ob:M[k]?=some (.int 40::es))(hi:(b4 40).findIdx? (·==nm)=some i)(he:es[i]?=some d):dg nm a Z M=.ok d M:=by
 unfold dg;rw[ha];show bL M (t6 M (au k) nm)=_;rw[FX ob hi he];rfl
def nr (j:v Z M=.ok z M')(ha:a Z M'=.ok (.fn (au k)) M')(ob:M'[k]?=some (.int 40::es))(hi:(b4 40).findIdx? (·==nm)=some es.length)(h:ae (rest Z (M'.set k (.int 40::(es++[z])))) kf):ae (aT (jm nm a v) rest Z M) kf:=by
 have e:p9 M' (au k) nm z=some (M'.set k (.int 40::(es++[z]))):=by
  unfold p9 au;rw[if_pos (Qg _ _),Pz,ob];show((b4 40).findIdx? (·==nm)).bind _=_;rw[hi];show(if es.length<es.length then _ else if es.length=es.length then _ else none)=_;rw[if_neg (Qj _),if_pos rfl]
 simp only[aM];unfold jm;rw[j];show ae ((a Z M').bind _) _;rw[ha];show ae (match p9 M' (au k) nm z with|some M'=>Res.ok (Fl.next Z) M'|none=>.bad) _
 rw[e];exact h
def FN (ha:a Z M=.ok (.fn (au k)) M)(ob:M[k]?=some (.int 40::es))(hs:s Z M=.ok ds M'):cx 40 f c a s Z M=c f (.fn (au k)::ds) M':=by
 have e:gX M (au k)=some 40:=by
  unfold gX au;rw[if_pos (Qg _ _),Pz,ob];rfl
 unfold cx;rw[ha];show(if gX M (au k)=some 40 then(s Z M).bind _ else .bad)=_;rw[if_pos e,hs];rfl
def FO (hs:s Z M=.ok ds M)(h:ae (c f (.fn (au M.length)::ds) (M++[[.int 40]])) λr M'=>r=.non/\kd (.fn (au M.length)) M'):ae (jt 40 f c s Z M) kd:=by
 obtain⟨r,M',e,rfl,q⟩:=ig.mp h;unfold jt;rw[hs];show ae ((c f (.fn (au M.length)::ds) (M++[[.int 40]])).bind _) kd;rw[e];exact q
def Km (ha:a Z M=.ok (.cell k) M)(j:b Z M=.ok z M)(hk:M[k]?=some ds)(hz:ds.length<sz)(h:ae (rest Z (M.set k (ds++[z]))) kf):ae (aT (fC a b) rest Z M) kf:=by
 simp only[aM];unfold fC;rw[ha];show ae ((b Z M).bind _) _;rw[j];show ae (match M[k]? with|some ds=>(if ds.length<sz then Res.ok (Fl.next Z) (M.set k (ds++[z])) else .bad)|none=>.bad) _
 rw[hk];show ae (if ds.length<sz then _ else _) _;rw[if_pos hz];exact h
def pb (es:s Z M=.ok ds M):aA f s Z M=ee f ds M:=by
 unfold aA;rw[es];rfl
def f9 (h1:a Z M=.ok x M)(h2:b Z M=.ok y M)(h3:bB o x y M=some w):aH o a b Z M=.ok (.bl w) M:=by
 unfold aH;rw[h1];show(b Z M).bind _=_;rw[h2];show(bL M (bB o x y M)).bind _=_;rw[h3];rfl
end
section
variable{P:Nat->Option Df}(h:HasM P)(ho:HasO0 P)(ha:uN P){M:Mem}{k e:Nat}{m:aJ}{r:List Nat}{hs:List (List Nat)}
include h ho
theorem EK (n:Nat)(y:aX M x r)(hm:aC m)(hr:cq m r):ag P (n+10) 129 [.fn (au M.length),m.d,x] (M++[[.int 40]])=.ok .non (M++[[.int 40,m.d,aR r,.cell (M.length+1)],[]]):=by
 have j:aX (M++[[.int 40]]) x r:=y.sub Sub.app;refine ak (aF ho.init rfl ?_);refine bo (ρ':=[some (.fn (au M.length)),some m.d,some x]) ?_ ?_
 ·show pD _ _ (ag P (n+9) 18 [m.d,x] (M++[[.int 40]]))=_;rw[jj h.toHasM0 n j hm hr];rfl
 refine nr (es:=[]) (az rfl) (az rfl) `s `d ?_
 have e1:(M++[[D.int 40]]).set M.length (.int 40::([]++[m.d]))=M++[[.int 40,m.d]]:=`s
 rw[e1];have u:aX (M++[[.int 40,m.d]]) x r:=y.sub Sub.app;have B:aA (.list false) #[aa 2] [some (.fn (au M.length)),some m.d,some x] (M++[[.int 40,m.d]])=.ok (aR r) (M++[[.int 40,m.d]]):=by
  refine ak ?_;rw[dH];show ae (ee (.list false) [x] _) _;rw[u.list,bT];exact{aG (by have:=hr.1;simp;omega),rfl,rfl}
 refine nr (es:=[m.d]) B (az rfl) `s (show _=some 1 by decide) ?_
 have e2:(M++[[D.int 40,m.d]]).set M.length (.int 40::([m.d]++[aR r]))=M++[[.int 40,m.d,aR r]]:=`s
 rw[e2];refine nr (es:=[m.d,aR r]) (z:=.cell (M.length+1)) (M':=M++[[.int 40,m.d,aR r]]++[[]]) ?_ (az rfl) `s (show _=some 2 by decide) ?_
 ·show(if 0<=sz then(if true=true then Res.ok (D.cell (M++[[.int 40,m.d,aR r]]).length) (M++[[.int 40,m.d,aR r]]++[[]]) else Res.ok (.lst []) (M++[[.int 40,m.d,aR r]])) else Res.bad)=_;rw[if_pos (QO _)];simp
 ·show D.non=.non/\_=_;simp
include ha
theorem EL (n:Nat)(hm:aC m)(hr:cq m r)(s:j4 M k e m r hs):ag P (n+11) 132 [.fn (au k)] M=.ok (hZ m r) (M++(aU m).map λs=>(dt m r s).map av):=by
 refine ak (aF ho.beh rfl ?_);refine bM ?_;rw[bg (af (t5 (i:=0) (az rfl) s.ob `d rfl) (af (t5 (i:=1) (az rfl) s.ob `d rfl) rfl)),yF h ha.h15 ha.h46 n hm hr]
 exact⟨rfl,rfl⟩
end
structure k9 (m:aJ) (fk:Nat) (M:Mem) (E:F3):Prop where
 d:M[fk]?=some (i0 E)
 rows:∀e∈E,∃r,M[e.2.2]?=some (r.map nD)/\cF m r e.1 e.2.1
 all:AllIn m none ((un E).map pr)
def k9.sub (h:k9 m fk M E)(s:Sub M M'):k9 m fk M' E:={s.get h.d,λe he=>let⟨r,a,b⟩:=h.rows e he;{r,s.get a,b},h.all}
def k9.look (h:k9 m fk M E)(hr:bX m r):∃q t c,getD M (au fk) (bD (ends m r))=some (.tup [nD q,.cell c])/\M[c]?=some (t.map nD)/\cF m t (ends m r) q/\bw m q (ends m r)/\q<=ay m r:=by
 have ro:cF m r (ends m r) (ay m r):=⟨hr,rfl,rfl⟩;obtain⟨q,y,hl⟩:=jn ro.rch;have z:=h.all.mem.mpr hl;rw[mr] at z;obtain⟨x,j,ex⟩:=Pf.mp z;have nd:(E.map (·.1)).Nodup:=by have:=h.all.nd;rw[mr,Qi] at this;exact this
 have g:=ua (v:=vC) h.d nd j;have e1:x.1=ends m r:=congrArg Prod.fst ex;have e2:x.2.1=q:=congrArg Prod.snd ex;obtain⟨t,u,rt⟩:=h.rows x j;rw[e1,e2] at rt;rw[e1] at g;exact{q,t,x.2.2,by rw[g,<- e2];rfl,u,rt,hl,y}
section
variable{Z:Env}{M:Mem}{a b:GE}{kf:Fl->Mem->Prop}{kw:Walk->Mem->Prop}
@[simp] theorem KI:ae (tY a Z M) kw↔ae (a Z M) λx M=>(dG x=true/\dY x=true)/\kw (λM=>(bR M x).map (dN 1)) M:=by
 simp only[tY,aV];refine iff_of_eq ?_;congr 1;funext x M;split<;>simp[*]
def iL (e:a Z M=.ok (.tup ds) M)(h:cg l ds Z=some ρ1):aw (.tup l) a Z M=.ok (.next ρ1) M:=by
 unfold aw;rw[e];show(bL M (cg l ds Z)).bind _=_;rw[h];rfl
def Kj {x y:Int}(h:Z[i]?.getD none=some (.int x))(e:a Z M=.ok (.int y) M):pJ i a Z M=.ok (.next (Z.set i (some (.int (x+y))))) M:=by
 unfold pJ;rw[h];show(a Z M).bind _=_;rw[e];rfl
end
def Lw {a b:Nat}:bB .lt (nD a) (nD b) M=some (decide (a<b)):=by
 show some (decide ((a:Int)<(b:Int)))=_;simp
def zQ (hr:bX m r)(hi:i<m.deeds.length):ends m (r++[i])=bh m i (ends m r)/\ay m (r++[i])=ay m r+cst m i:=(cF.snoc (⟨hr,rfl,rfl⟩:cF m r _ _) hi).2
section
variable{P:Nat->Option Df}{M:Mem}{m:aJ}{w:List Nat}
def BV (hi:i<m.deeds.length):da (cj m L) (nD i) M=some (.tup [nD (cst m i),.fn (au (L+i))]):=by
 show(b6 ((List.range m.deeds.length).map λi=>D.tup [nD (cst m i),.fn (au (L+i))]).length (i:Int)).bind (λj=>((List.range m.deeds.length).map λi=>D.tup [nD (cst m i),.fn (au (L+i))])[j]?)=_;rw[eM (by simpa using hi)]
 simp[hi]
def wC (h152:P 152=some {2,2,dC})(h197:P 197=some {4,11,cX})(n:Nat)(hm:aC m)(f:k9 m fk M E)(W:∀i<m.deeds.length,M[L+i]?=some (dM m (bQ m i)))(H:bX m w)(hl:w.length<=100) :
 ae (ag P (n+2) 197 [cj m L,.fn (au fk),bD (aU m),.lst (w.map nD)] M) λd M'=>M'=M/\((d=.non/\∀l,1<=l->l<=w.length->bw m (ay m (w.take l)) (ends m (w.take l)))\/∃l c,d=.tup [nD l,aR c]/\1<=l/\l<=w.length/\bX m c/\ends m c=ends m (w.take l)/\ay m c<ay m (w.take l)):=by
 refine aF h197 rfl ?_;show ae (cX (ag P (n+1)) [some (cj m L),some (.fn (au fk)),some (bD (aU m)),some (.lst (w.map nD)),none,none,none,none,none,none,none] M) _;unfold cX;refine bo (bJ rfl) ?_;rw[aM,gR,KI,bp];refine{_,rfl,⟨rfl,rfl⟩,?_};refine p8 (ds:=dN 1 (w.map nD)) (λi Z M'=>M'=M/\∃a5 a6 y B F j,Z=[some (cj m L),some (.fn (au fk)),some (bD (ends m (w.take i))),some (.lst (w.map nD)),some (nD (ay m (w.take i))),a5,a6,y,B,F,j]/\∀l,1<=l->l<=i->bw m (ay m (w.take l)) (ends m (w.take l)))
  (λd M'=>M'=M/\∃l c,d=.tup [nD l,aR c]/\1<=l/\l<=w.length/\bX m c/\ends m c=ends m (w.take l)/\ay m c<ay m (w.take l)) (λ_ _ _ _=>rfl) (λ_ _ _=>rfl) {rfl,none,none,none,none,none,none,?_,λl h1 h2=>absurd h2 `a} ?_ ?_ ?_
 ·show _=[_,_,some (bD (ends m [])),_,some (nD (ay m [])),_,_,_,_,_,_];rw[show ends m []=aU m from List.map_id _];rfl
 ·rintro i d Z _ hd ⟨rfl,a5,a6,y,B,F,j,rfl,v⟩;rw[g5,Pt] at hd;cases e:w[i]? with
  |none=>rw[e] at hd;cases hd
  | some x =>
    rw[e] at hd;have hd:=O2 hd;subst hd;have S:i<w.length:=(OV.mp e).1;have I:=H x (PZ e);have R:w.take (i+1)=w.take i++[x]:=by rw[Qq,e];rfl
    have J:bX m (w.take i):=λk hk=>H k (PY hk);have u:bX m (w.take (i+1)):=λk hk=>H k (PY hk);obtain⟨e1,e2⟩:=zQ J I;rw[<- R] at e1 e2;refine{_,rfl,?_};refine bo (iL (dj rfl rfl (BV I)) rfl) (bo (Kj rfl rfl) ?_);have O:=yT hm (cF.rch (⟨J,rfl,rfl⟩:cF m (w.take i) _ _));refine bo (bJ ((bg (af rfl (af rfl rfl))).trans (yD h152 n (W x I) hm (by rw[O.1];exact kL hm) O.2))) ?_
    obtain⟨q,t,c,g,Q,rt,hl,X⟩:=f.look u;rw[e1] at g;refine bo (iL (tW (x:=.non) rfl rfl g) rfl) ?_;refine cf (b:=decide (q<ay m (w.take (i+1)))) (cZ (f9 rfl rfl (by rw[e2];exact Lw))) (λz=>?_) (λz=>?_)
    ·refine bM ?_;simp only[e9,bO,cJ,bp,dH];refine{_,rfl,_,rfl,?_};refine(aX.c Q).list.mpr (bT.mpr {aG (by rw[OY];have:=rt.len hm;have:=g7 hm u;have:(w.take (i+1)).length<=w.length:=List.length_take_le' _ _;omega),aG (n:=2) `d,?_})
     refine .inr {_,rfl,rfl,i+1,t,?_,`a,S,rt.1,rt.2.1,by rw[rt.2.2];exact of_decide_eq_true z}
     show D.tup [.int ((1+i:Nat):Int),_]=_;rw[Nat.add_comm];rfl
    ·refine .inl {_,rfl,rfl,some (.int ((1+i:Nat):Int)),some (nD x),some (nD (cst m x)),some (.fn (au (L+x))),some (nD q),some (.cell c),by rw[e1,e2];rfl,λl h1 h2=>?_}
     by_cases U:l<=i
     ·exact v l h1 U
     ·have:l=i+1:=`a
      subst this;have:q=ay m (w.take (i+1)):=by have:=of_decide_eq_false z;omega
      rw[<- this];exact hl
 ·rintro Z M' ⟨rfl,a5,a6,y,B,F,j,rfl,v⟩;rw[i1,OY] at v;exact bC.mpr (bM (fN.mpr {rfl,.inl ⟨rfl,v⟩}))
 ·rintro d M' ⟨rfl,h⟩;exact{rfl,.inr h}
end
section
variable{P:Nat->Option Df}{M:Mem}{m:aJ}{w:Nat}{r:List Nat}
def vk {s:GA}{c:Call}{k:D->Mem->Prop}(e:s Z M=.ok xs M')(h:ae (c f xs M') k):ae (ah f c s Z M) k:=by
 unfold ah;rw[e];exact h
def Ja {i:Nat}(hi:i<m.deeds.length):(M++m.deeds.map (dM m))[M.length+i]?=some (dM m (bQ m i)):=by
 rw[Pp `a,Pz,Pt,Pd hi]
 rw[<- qg (Pd hi)];rfl
def se (h:l<=w):((r.drop p).take w).take l=win r p l:=by unfold win;rw[List.take_take,Q5 h]
def A5 (Q:HasB0 P)(hr:jB P)(h15:P 15=some {1,6,bG})(h151:P 151=some {1,2,dw})(h152:P 152=some {2,2,dC})(h197:P 197=some {4,11,cX})(h198:P 198=some {4,10,fu})(n:Nat)(hm:aC m)(f:k9 m fk M E)(X:aX M x r)(hn:bX m r)(hl:r.length<=100)(hw:w<=6) :
 ae (ag P (n+11) 198 [m.d,.fn (au fk),x,nD w] M) λd M'=>Sub M M'/\((d=.non/\Calm m w r)\/∃s,d=b9 s/\eK m w r s.1 s.2.1 s.2.2):=by
 refine aF h198 rfl ?_;show ae (fu (ag P (n+10)) [some m.d,some (.fn (au fk)),some x,some (nD w),none,none,none,none,none,none] M) _;unfold fu;refine fS (v9 ((dh (af rfl rfl)).trans (sD Q hr h15 h151 n hm))) ?_;have s1:Sub M (M++m.deeds.map (dM m)):=.app;have H:=λi (F:i<m.deeds.length)=>Ja (M:=M) F;generalize M++m.deeds.map (dM m)=u at s1 H ⊢;generalize M.length=L at H ⊢;refine fS (jb (x:=bD (aU m)) (M':=u) (ak (dH.mpr ?_))) ?_
 ·rw[af ((bg (af rfl rfl)).trans (jN Q h15 (n+1) hm)) rfl,bS];exact⟨rfl,rfl⟩
 have f1:=f.sub s1;have R:=X.sub s1;rw[aM,gR,gP,dH];show ae (ee .len [x] u) _;rw[R.len];refine{_,rfl,`a,?_}
 refine p8 (ds:=(List.range r.length).map λ(k:Nat)=>D.int (k:Int)) (λi I M'=>M'=u/\∃a6 v y z,I=[some m.d,some (.fn (au fk)),some x,some (nD w),some (cj m L),some (bD (aU m)),a6,v,y,z]/\∀p<i,∀l,1<=l->l<=w->p+l<=r.length->bw m (ay m (win r p l)) (ends m (win r p l)))
  (λd M'=>M'=u/\∃s,d=b9 s/\eK m w r s.1 s.2.1 s.2.2) (λ_ _ _ _=>rfl) (λ_ _ _=>rfl) {rfl,none,none,none,none,rfl,λp h=>absurd h (Rh _)} ?_ ?_ ?_
 ·rintro i d I J hd ⟨rfl,a6,v,y,z,rfl,B⟩;rw[Pt] at hd;cases e:(List.range r.length)[i]? with
  |none=>rw[e] at hd;cases hd
  | some k =>
    rw[e] at hd;obtain⟨F,O⟩:=OV.mp e;rw[List.getElem_range] at O;rw[Ql] at F;subst O;have hd:=O2 hd;subst hd;refine{_,rfl,?_};have hz:((r.drop i).take w).length<=w:=List.length_take_le _ _;have S:bN false true true (aa 2) (aa 6) (ai false .add (aa 6) (aa 3)) [some m.d,some (.fn (au fk)),some x,some (nD w),some (cj m L),some (bD (aU m)),some (nD i),v,y,z] J=.ok (.lst (((r.drop i).take w).map nD)) J:=
     ak (f7.mpr {rfl,rfl,(sG R `a).mpr ⟨rfl,rfl⟩})
    refine cS (h:=(vk (af rfl (af rfl (af rfl (af S rfl)))) (wC h152 h197 (n+8) hm f1 H (w:=(r.drop i).take w) (λk hk=>hn k (List.mem_of_mem_drop (PY hk))) `a))) ?_
    rintro d _ ⟨rfl,⟨rfl,cl⟩|⟨l,c,rfl,h1,h2,U,he,j⟩⟩
    ·refine dR rfl (.inl {_,rfl,rfl,_,_,_,_,rfl,λp Y l h1 h2 h3=>?_});by_cases W:p<i
     ·exact B p W l h1 h2 h3
     ·have:p=i:=`a
      subst this;rw[<- se h2];exact cl l h1 (by rw[PR,Qv];omega)
    ·have h3:l<=w:=`a
     rw[PR,Qv] at h2;rw[se h3] at he j;refine zI rfl (bo (iL rfl rfl) (bM ?_));simp only[e9,bO,cJ,bp];exact{_,rfl,_,rfl,_,rfl,aG (n:=3) `d,.inr {_,rfl,rfl,(i,l,c),rfl,h1,h3,by show i+l<=_;omega,U,he,j}}
 ·rintro I _ ⟨rfl,a6,v,y,z,rfl,B⟩;rw[OY,Ql] at B;refine bC.mpr (bM (fN.mpr {s1,.inl {rfl,λp l h1 h2 h3=>B p `a l h1 h2 h3}}))
 ·rintro d _ ⟨rfl,h⟩;exact{s1,.inr h}
end
section
variable{P:Nat->Option Df}{M:Mem}{m:aJ}{w:Nat}{r:List Nat}
def uA (h:HasB0 P)(n:Nat){a b c:GE}{x y z:Int}{Z:Env}(j:a Z M=.ok (.int x) M)(u:b Z M=.ok (.int y) M)(v:c Z M=.ok (.int z) M):b3 (aq (ah 0 (ag P (n+1)) #[a,b,c])) Z M=.ok (!(decide (y<=x)&&decide (x<=z))) M:=
 zi (cZ ((bg (af j (af u (af v rfl)))).trans (eW h n _ _ _)))
def lM (h:aX M x r)(e:Z[i]?.getD none=some x):aA .len #[aa i] Z M=.ok (nD r.length) M:=by
 rw[pb (af (az e) rfl)];exact ak (h.len.mpr ⟨rfl,rfl⟩)
def BE (h:aX M x r)(hl:r.length<=100000)(e:Z[i]?.getD none=some x):aA (.list true) #[aa i] Z M=.ok (.cell M.length) (M++[r.map nD]):=by
 rw[pb (af (az e) rfl)];exact ak (h.list.mpr (pS.mpr {aG (by rw[OY];exact hl),rfl,rfl}))
def cw (h:aX M x r)(hl:r.length<=100000)(e:Z[i]?.getD none=some x):aA (.list false) #[aa i] Z M=.ok (aR r) M:=by
 rw[pb (af (az e) rfl)];exact ak (h.list.mpr (bT.mpr {aG (by rw[OY];exact hl),rfl,rfl}))
def mU (h:HasM P)(h196:P 196=some {3,3,cE})(n:Nat)(hm:aC m)(j:aX M x r)(hr:cq m r)(hl:r.length<=12)(h1:1<=w)(u:w<=6):ag P (n+10) 196 [m.d,x,nD w] M=.ok .non M:=by
 refine ak (aF h196 rfl ?_);show ae (cE (ag P (n+9)) [some m.d,some x,some (nD w)] M) _;unfold cE;rw[aM,sJ,dh (af rfl (af rfl rfl)),jj h n j hm hr];refine oC.mpr (bC.mpr (dR (cZ (f9 (lM j rfl) rfl (w:=false) ?_)) (dR ?_ ⟨rfl,rfl⟩)))
 ·show some (decide ((12:Int)<(r.length:Int)))=_;rw[decide_eq_false `a]
 ·rw[uA h.toHasB0 (n+8) rfl rfl rfl,decide_eq_true `a,decide_eq_true `a];rfl
def Hs {a lo hi d:GE}{Z:Env}{es:List D}{j p q:Nat}(hd:d Z M=.ok (.lst es) M)(h:a Z M=.ok (.cell j) M)(hl:lo Z M=.ok (nD p) M)(hh:hi Z M=.ok (nD q) M)(e:M[j]?=some ds)(h1:p<=q)(h2:q<=ds.length)(h3:ds.length+es.length<=100000):sL a lo hi d Z M=.ok (.next Z) (M.set j (ds.take p++es++ds.drop q)):=by
 unfold sL;rw[hd];show(a Z M).bind _=_;rw[h];show(lo Z M).bind _=_;rw[hl];show(hi Z M).bind _=_;rw[hh];show(match M[j]? with|some ds=>(if 0<=(p:Int)/\(p:Int)<=(q:Int)/\(q:Int)<=ds.length/\ds.length+es.length<=sz then Res.ok (Fl.next Z) (M.set j (ds.take (p:Int).toNat++es++ds.drop (q:Int).toNat)) else .bad)|none=>.bad)=_
 rw[e];show(if _ then _ else _)=_;rw[if_pos {`a,`a,`a,Pa h3 `d}]
 rfl
def Lv (c:Call):i7 c=#v[fB (bf 196 c #[aa 0,aa 1,aa 2]),cv (.one 3) (bf 166 c #[aa 0,gN]),aw (.one 4) (aA (.list true) #[aa 1]),aw (.one 5) (bt true bx),cv (.one 6) (bf 198 c #[aa 0,aa 3,aa 4,aa 2]),gU (aq (aH .notN (aa 6) gN)) (MP c),aD (bu #[aa 4,aa 5])]:=rfl
def nY {a:GE}{Z:Env}{j:Fl->Mem->Prop}{rest:GS}{k:D->Mem->Prop}(h:dW (a Z M) k (λx M'=>j (.exc x Z) M'))(hk:∀x M',k x M'->ae (rest (Z.set i (some x)) M') j):ae (aT (cv (.one i) a) rest Z M) j:=by
 rw[aM,va];cases e:a Z M with
 |ok x u=>rw[e] at h;exact hk x u h
 |err x u=>rw[e] at h;exact h
 |bad=>rw[e] at h;exact h
def r8 (m:aJ)(w:Nat)(t:List Nat)(d:D):Prop:=(d=.non/\Calm m w t)\/∃s,d=b9 s/\eK m w t s.1 s.2.1 s.2.2
def xI (m:aJ)(w:Nat)(r:List Nat)(M:Mem)(d:D)(M':Mem):Prop:=∃j k h t,d=.tup [.cell j,.cell k]/\M.length<=j/\M.length<=k/\M'[j]?=some (t.map nD)/\M'[k]?=some (h.map b9)/\cK m w r h t/\Calm m w t/\Sub M M'
def yC (h:HasM P)(h196:P 196=some {3,3,cE})(h199:P 199=some {3,10,i7})(n:Nat)(hm:aC m)
 (h166:∀(M:Mem),dW (ag P (n+11) 166 [m.d,.non] M) (λd M'=>∃v E,d=.fn (au v)/\M.length<=v/\M'[v]?=some (i0 E)/\pB m M.length M' E/\AllIn m none ((un E).map pr)/\E.length<=255/\Sub M M') (λx M'=>x=.exc 8 none/\cm m none/\Sub M M'))
 (h198:∀{M v E x t},k9 m v M E->aX M x t->bX m t->t.length<=100->ae (ag P (n+11) 198 [m.d,.fn (au v),x,nD w] M) λd M'=>Sub M M'/\r8 m w t d)
 (hx:aX M x r) (hr:cq m r) (hl:r.length<=12) (h1:1<=w) (h6:w<=6) :
 dW (ag P (n+12) 199 [m.d,x,nD w] M) (λd M'=>xI m w r M d M'/\¬ cm m none) (λx M'=>x=.exc 8 none/\cm m none/\Sub M M'):=by
 refine kJ h199 rfl ?_;show ae (i7 (ag P (n+11)) [some m.d,some x,some (nD w),none,none,none,none,none,none,none] M) _;rw[Lv,aM,sJ,dh (af rfl (af rfl (af rfl rfl))),mU h h196 (n+1) hm hx hr hl h1 h6];refine oC.mpr (bC.mpr (nY (k:=λd M'=>∃v E,d=.fn (au v)/\k9 m v M' E/\Sub M M'/\¬ cm m none) ?_ ?_))
 ·rw[dh (af rfl (af rfl rfl))];have t:=h166 M;cases e:ag P (n+11) 166 [m.d,.non] M with
  |bad=>rw[e] at t;exact t.elim
  |err y u=>rw[e] at t;exact t
  | ok d u =>
    rw[e] at t;obtain⟨v,E,rfl,_,ef,S,all,few,s1⟩:=t;exact{v,E,rfl,{ef,λe he=>(S e he).1,all},s1,all.few (by rw[mr,OY];exact few)}
 rintro _ u ⟨v,E,rfl,f,s1,few⟩;have c0:=g7 hm hr.2;have x1:=hx.sub s1;refine fS (jb (BE x1 `a rfl)) (fS (jb (x:=.cell (u.length+1)) (M':=u++[r.map nD]++[[]]) (by show Res.ok (D.cell (u++[r.map nD]).length) _=_;rw[O9];rfl)) ?_)
 have s2:Sub u (u++[r.map nD]++[[]]):=Sub.app.trans .app;have J:(u++[r.map nD]++[[]])[u.length]?=some (r.map nD):=`s
 have eq:(u++[r.map nD]++[[]])[u.length+1]?=some (([]:List (Nat×Nat×List Nat)).map b9):=`s
 generalize u++[r.map nD]++[[]]=M2 at s2 J eq ⊢;generalize hj:u.length=j at J eq ⊢;refine nY (k:=λd M'=>Sub M2 M'/\r8 m w r d) ?_ ?_
 ·rw[dh (af rfl (af rfl (af rfl (af rfl rfl))))];exact oE (h198 (f.sub s2) (.c J) hr.2 `a)
 rintro d M3 ⟨U,hd⟩;rw[aM];refine sI (λk Z M'=>∃B t d Y a8 a9,Z=[some m.d,some x,some (nD w),some (.fn (au v)),some (.cell j),some (.cell (j+1)),some d,Y,a8,a9]/\M'[j]?=some (t.map nD)/\M'[j+1]?=some (B.map b9)/\cK m w r B t/\r8 m w t d/\Sub u M'/\ay m t<=k) ?_ (k:=ay m r) `a {[],r,d,none,none,none,rfl,U.get J,U.get eq,.nil,hd,s2.trans U,OZ _}
 rintro k Z L ⟨B,t,d,Y,a8,a9,rfl,e1,e2,md,⟨rfl,cl⟩|⟨⟨p,l,c⟩,rfl,F⟩,s4,hk⟩
 ·refine{λ_=>?_,λz=>nomatch z};refine bC.mpr (bM ?_);simp only[e9,bO,cJ,bp];exact{_,rfl,_,rfl,aG (n:=2) `d,{_,_,B,t,rfl,by have:=s1.len;omega,by have:=s1.len;omega,e1,e2,md,cl,s1.trans s4},few}
 ·refine{λz=>(nomatch z),λ_=>?_};replace F:eK m w t p l c:=F;have lt:=F.less;have nt:=md.num hr.2;have mc:=md.cost;have tl:=eO hm t nt;have cc:=eO hm c F.ok;have wl:=F.lt;have pc:=sR (m:=m) (r:=t) (p:=p) (l:=l) (c:=c);have ps:=pN (m:=m) (c:=c) F.pl;obtain⟨k,rfl⟩:∃k',k=k'+1:={k-1,`a}
  refine{k,rfl,?_};have pl:=F.pl;refine bo (iL rfl rfl) (fS (Hs (p:=p) (q:=p+l) rfl rfl rfl rfl e1 (Qg _ _) (by rw[OY];exact pl) (by rw[OY,OY];exact(by omega:t.length+c.length<=100000))) ?_)
  have Q:(L.set j ((t.map nD).take p++c.map nD++(t.map nD).drop (p+l)))[j+1]?=some (B.map b9):=by rw[O5 `a];exact e2
  have g0:(L.set j ((t.map nD).take p++c.map nD++(t.map nD).drop (p+l)))[j]?=some ((du t p l c).map nD):=by
   rw[Py (OV.mp e1).1];unfold du;simp
  have s5:=s4.setq (q:=j) (ds:=(t.map nD).take p++c.map nD++(t.map nD).drop (p+l)) `a
  generalize L.set j ((t.map nD).take p++c.map nD++(t.map nD).drop (p+l))=O at g0 Q s5 ⊢;refine Km (k:=j+1) rfl rfl Q (by rw[OY];exact Pj (by omega:_<1000) `d) ?_
  have g2:(O.set (j+1) (B.map b9++[b9 (p,l,c)]))[j+1]?=some ((B++[(p,l,c)]).map b9):=by
   rw[Py (OV.mp Q).1,Pn];rfl
  have R:(O.set (j+1) (B.map b9++[b9 (p,l,c)]))[j]?=some ((du t p l c).map nD):=by rw[O5 `a];exact g0
  have W:=s5.setq (q:=j+1) (ds:=B.map b9++[b9 (p,l,c)]) `a
  generalize O.set (j+1) (B.map b9++[b9 (p,l,c)])=M6 at g2 R W ⊢;have H:=md.snoc F;have I:=H.num hr.2;have tl':=eO hm _ I;refine nY (k:=λd M'=>Sub M6 M'/\r8 m w (du t p l c) d) ?_ ?_
  ·rw[dh (af rfl (af rfl (af rfl (af rfl rfl))))];exact oE (h198 (f.sub W) (.c R) I (by have:=H.cost;omega))
  rintro d M7 ⟨X,hd⟩;exact .inl {_,rfl,_,_,d,_,_,_,rfl,X.get R,X.get g2,H,hd,W.trans X,`a}
end
def jX (r:List Nat)(ss:List (Nat×Nat×List Nat)):List Nat:=ss.foldl (λt s=>du t s.1 s.2.1 s.2.2) r
def nQ:jX r (ss++[s])=du (jX r ss) s.1 s.2.1 s.2.2:=by unfold jX;rw[List.foldl_append];rfl
def cK.go (h:cK m w r ss t):t=jX r ss/\∀i s,ss[i]?=some s->eK m w (jX r (ss.take i)) s.1 s.2.1 s.2.2:=by
 induction h with
 |nil=>exact{rfl,λi s e=>nomatch e}
 | @snoc ss t p l c h y u =>
   obtain⟨rfl,u⟩:=u;refine{(nQ (s:=(p,l,c))).symm,λi s e=>?_};by_cases v:i<ss.length
   ·rw[O4 v] at e;rw[List.take_append_of_le_length `a]
    exact u i s e
   ·have j:=(OV.mp e).1;rw[O9,Q8] at j;obtain rfl:i=ss.length:=`a
    rw[Pp (OZ _),Nat.sub_self] at e;cases e;rw[List.take_left'];exact y;rfl
def vO {ss:List (Nat×Nat×List Nat)}(e:ss[i]?=some s):jX r (ss.take (i+1))=du (jX r (ss.take i)) s.1 s.2.1 s.2.2:=by
 rw[Qq,e];exact nQ
section
variable{P:Nat->Option Df}{M:Mem}{m:aJ}{w:Nat}{r:List Nat}
def yI (h:HasM0 P)(h200:P 200=some {2,2,c5})(n:Nat)(j:bX m c)(hl:c.length<=100000):ag P (n+3) 200 [m.d,aR c] M=.ok (.bl true) M:=by
 refine ak (aF h200 rfl ?_);show ae (c5 (ag P (n+2)) [some m.d,some (aR c)] M) _;refine bM (LO.mpr (JF.mpr {true,rfl,true,rfl,all_true ⟨rfl,rfl⟩ (aG (by rw[OY];exact hl)) ?_ ⟨rfl,rfl⟩}))
 intro d hd;obtain⟨i,u,rfl⟩:=Pf.mp hd;exact(bg (af rfl (af rfl rfl))).trans (u9 h n (j i u))
def EW (h:HasM P)(v:uN P)(h47:P 47=some {2,2,b8})(h200:P 200=some {2,2,c5})(h201:P 201=some {4,9,dO})(n:Nat)(hm:aC m)(y:aX M x r)(hn:bX m r)(hl:r.length<=60)(L:w<=6)(j:eK m w r p l c) :
 ae (ag P (n+11) 201 [m.d,x,nD w,b9 (p,l,c)] M) λd M'=>d=aR (du r p l c)/\Sub M M':=by
 have J:=eO hm c j.ok;have O:=j.lt;have pl:=j.pl;have l1:=j.l1;have lw:=j.lw;have I:=g7 hm hn.win (r:=win r p l);rw[jL pl] at I;refine aF h201 rfl ?_;show ae (dO (ag P (n+10)) [some m.d,some x,some (nD w),some (b9 (p,l,c)),none,none,none,none,none] M) _;unfold dO;refine bo (iL (ρ1:=[some m.d,some x,some (nD w),some (b9 (p,l,c)),some (nD p),some (nD l),some (aR c),none,none]) rfl rfl) ?_;have B:=h.toHasM0.toHasB0;refine dR (Li ((uA B (n+9) rfl rfl rfl).trans ?_) ((uA (z:=(r.length:Int)-(l:Int)) B (n+9) rfl rfl ?_).trans ?_)) ?_
 ·rw[decide_eq_true `a,decide_eq_true `a];rfl
 ·rw[j0 (lM y rfl) rfl];rfl
 ·rw[decide_eq_true `a,decide_eq_true `a];rfl
 refine dR (zi (b:=true) (cZ ((bg (af rfl (af rfl rfl))).trans (yI h.toHasM0 h200 (n+7) j.ok `a)))) ?_
 refine bo (bJ (x:=nD (p+l)) rfl) ?_;refine bo (bJ (x:=aR (win r p l)) (ak (f7.mpr {rfl,rfl,(sG y `a).mpr ⟨rfl,rfl⟩}))) ?_
 have F:=iP h.toHasM0 h47 (n+9) (M:=M) (m:=m) (x:=aR c) .l `a j.ok
 have H:=iP h.toHasM0 h47 (n+9) (M:=M) (m:=m) (x:=aR (win r p l)) .l (by rw[jL pl];omega) hn.win
 refine dR (cZ (f9 ((bg (af rfl (af rfl rfl))).trans F) ((bg (af rfl (af rfl rfl))).trans H) (w:=false) ?_)) ?_
 ·show some (decide ((ay m (win r p l):Int)<=(ay m c:Int)))=_;rw[decide_eq_false `a]
 have e1:=fR h v.h15 v.h46 n (M:=M) (x:=aR c) .l hm `a j.ok
 refine iH (R:=Sub M) ?_ λu s1=>?_
 ·rw[fQ,eJ,bg (af rfl (af rfl rfl)),e1,bS,bg (af rfl (af rfl rfl)),fR h v.h15 v.h46 n (x:=aR (win r p l)) .l hm (by rw[jL pl];omega) hn.win,bS]
  refine{false,?_,_,rfl,rfl,Sub.app.trans .app};rw[hD,hD,qY,j.en,decide_eq_true rfl];rfl
 have E:=y.sub s1;refine bM (Z:=[some m.d,some x,some (nD w),some (b9 (p,l,c)),some (nD p),some (nD l),some (aR c),some (nD (p+l)),some (aR (win r p l))]) ?_;have t1:bN false false true (aa 1) gN (aa 4) [some m.d,some x,some (nD w),some (b9 (p,l,c)),some (nD p),some (nD l),some (aR c),some (nD (p+l)),some (aR (win r p l))] u=.ok (aR (r.take p)) u:=ak (f7.mpr {rfl,rfl,(qE E `a).mpr ⟨rfl,rfl⟩})
 have t2:bN false true false (aa 1) (aa 7) gN [some m.d,some x,some (nD w),some (b9 (p,l,c)),some (nD p),some (nD l),some (aR c),some (nD (p+l)),some (aR (win r p l))] u=.ok (aR (r.drop (p+l))) u:=ak (f7.mpr {rfl,rfl,(mV E `a).mpr ⟨rfl,rfl⟩})
 rw[pw (pw t1 rfl ?_) t2 ?_,bS]
 ·exact{by unfold du aR;simp,s1}
 ·rw[<- Pn,OY,O9];rw[PR];omega
 ·rw[<- Pn,<- Pn,OY];rw[O9,O9,PR,Qv];omega
def cK.pre (h:cK m w r ss t):∀i,cK m w r (ss.take i) (jX r (ss.take i)):=by
 induction h with
 |nil=>exact λi=>by rw[List.take_nil];exact .nil
 | @snoc ss t p l c h v u =>
   intro i;by_cases j:i<=ss.length
   ·rw[List.take_append_of_le_length j];exact u i
   ·rw[Pw (by rw[O9,Q8];omega)]
    have z:=h.snoc v;rw[h.go.1] at z;exact(nQ (s:=(p,l,c))) ▸ z
def cK.num_le (h:cK m w r ss t)(hm:aC m)(hr:bX m r)(hl:r.length<=12):bX m t/\t.length<=36/\ss.length<=36:=by
 have:=h.cost;have:=g7 hm hr;have:=eO hm t (h.num hr);exact{h.num hr,`a,`a}
def ES (h:HasM P)(h196:P 196=some {3,3,cE})(h202:P 202=some {4,6,hG})(n:Nat)(hm:aC m)
 (h201:∀{M t p l c},bX m t->t.length<=60->eK m w t p l c->ae (ag P (n+11) 201 [m.d,aR t,nD w,b9 (p,l,c)] M) λd M'=>d=aR (du t p l c)/\Sub M M')
 (u:aX M x r) (hr:cq m r) (hl:r.length<=12) (h1:1<=w) (y:w<=6) (md:cK m w r ss t):ae (ag P (n+12) 202 [m.d,x,nD w,.lst (ss.map b9)] M) λd M'=>d=aR t/\Sub M M':=by
 refine aF h202 rfl ?_;show ae (hG (ag P (n+11)) [some m.d,some x,some (nD w),some (.lst (ss.map b9)),none,none] M) _;unfold hG;rw[aM,sJ,dh (af rfl (af rfl (af rfl rfl))),mU h h196 (n+1) hm u hr hl h1 y];refine oC.mpr (bC.mpr (bo (bJ (cw u `a rfl)) ?_))
 rw[aM,gR,mq,bp];refine{_,rfl,rfl,?_};refine fL (ds:=ss.map b9) (λi j M'=>Sub M M'/\∃a5,j=[some m.d,some x,some (nD w),some (.lst (ss.map b9)),some (aR (jX r (ss.take i))),a5]) (λ_ _ _ _=>rfl) {.refl,none,rfl} ?_ ?_
 ·rintro i d j v hd ⟨s1,a5,rfl⟩;rw[Pt] at hd;cases e:ss[i]? with
  |none=>rw[e] at hd;cases hd
  | some s =>
    rw[e] at hd;have hd:=O2 hd;subst hd;obtain⟨p,l,c⟩:=s;refine{_,rfl,?_};have nl:=(md.pre i).num_le hm hr.2 hl;refine cS (h:=vk (af rfl (af rfl (af rfl (af rfl rfl)))) (h201 nl.1 `a (md.go.2 i _ e))) ?_
    rintro _ z ⟨rfl,s2⟩;exact dR rfl {_,rfl,s1.trans s2,_,by rw[vO e];rfl}
 ·rintro j v ⟨s1,a5,rfl⟩;rw[OY,List.take_length,<- md.go.1];exact bC.mpr (bM ⟨rfl,s1⟩)
def yz (h:HasM0 P)(h19:P 19=some {2,2,j3})(h47:P 47=some {2,2,b8})(h206:P 206=some {3,7,eC})(n:Nat)(hm:aC m)(hr:cq m r)(hl:r.length<=12)(O:w<=6)(md:cK m w r ss t)(E:M[k]?=some (ss.map b9)) :
 ag P (n+11) 206 [m.d,aR r,.cell k] M=.ok (.int ((ay m r:Int)-(ay m t:Int))) M:=by
 refine ak (aF h206 rfl ?_);show ae (eC (ag P (n+10)) [some m.d,some (aR r),some (.cell k),none,none,none,none] M) _;unfold eC;refine bo (bJ rfl) ?_;rw[aM,gR,mq,bp];refine{_,rfl,rfl,?_};refine fL (ds:=ss.map b9) (λi y u=>u=M/\∃a4 a5 a6,y=[some m.d,some (aR (jX r (ss.take i))),some (.cell k),some (.int ((ay m r:Int)-(ay m (jX r (ss.take i)):Int))),a4,a5,a6]) (λ_ _ _ e=>by rw[e.1];exact E) {rfl,none,none,none,by
  show _=[_,some (aR r),_,some (.int ((ay m r:Int)-(ay m r:Int))),_,_,_];rw[Int.sub_self];rfl} ?_ ?_
 ·rintro i d y u hd ⟨rfl,a4,a5,a6,rfl⟩;rw[Pt] at hd;cases e:ss[i]? with
  |none=>rw[e] at hd;cases hd
  | some s =>
    rw[e] at hd;have hd:=O2 hd;subst hd;obtain⟨p,l,c⟩:=s;refine{_,rfl,?_};obtain⟨v,tl,_⟩:=(md.pre i).num_le hm hr.2 hl;have j:eK m w (jX r (ss.take i)) p l c:=md.go.2 i _ e;rw[vO e];generalize jX r (ss.take i)=t1 at v tl j ⊢;have ps:=pN (m:=m) (c:=c) j.pl;have L:=eO hm c j.ok;have Q:=j.lt;have pl:=j.pl;have lw:=j.lw;have J:=g7 hm v.win (r:=win t1 p l);rw[jL pl] at J;have B:=iD h h19 h47 n (M:=u) hm (r:=win t1 p l) {by rw[jL pl];omega,v.win}
    have z:=iD h h19 h47 n (M:=u) hm (r:=c) {`a,j.ok}
    have H:bN false true true (aa 1) (aa 4) (ai false .add (aa 4) (aa 5)) [some m.d,some (aR t1),some (.cell k),some (.int ((ay m r:Int)-(ay m t1:Int))),some (nD p),some (nD l),some (aR c)] u=.ok (aR (win t1 p l)) u:=ak (f7.mpr {rfl,rfl,(sG .l `a).mpr ⟨rfl,rfl⟩})
    refine bo (bJ (x:=.int ((ay m r:Int)-(ay m t1:Int)+(ay m (win t1 p l):Int)-(ay m c:Int))) ((j0 (x:=.int ((ay m r:Int)-(ay m t1:Int)+(ay m (win t1 p l):Int))) ((j0 rfl ((bg (af rfl (af H rfl))).trans B)).trans rfl) ((bg (xs:=[m.d,aR c]) (af rfl (af (cw .l `a rfl) rfl))).trans z)).trans rfl)) ?_
    have F:aR (du t1 p l c)=.lst ((t1.take p).map nD++c.map nD++(t1.drop (p+l)).map nD):=by unfold du aR;simp
    refine bo (bJ (x:=aR (du t1 p l c)) (F ▸ pw (pw (ak (f7.mpr {rfl,rfl,(qE .l `a).mpr ⟨rfl,rfl⟩})) rfl ?_) (ak (f7.mpr {rfl,rfl,(mV .l `a).mpr ⟨rfl,rfl⟩})) ?_)) ?_
    ·rw[<- Pn,OY,O9,PR];omega
    ·rw[<- Pn,<- Pn,OY,O9,O9,PR,Qv];omega
    ·refine{_,rfl,rfl,some (nD p),some (nD l),some (aR c),?_};have I:(ay m r:Int)-(ay m t1:Int)+(ay m (win t1 p l):Int)-(ay m c:Int)=(ay m r:Int)-(ay m (du t1 p l c):Int):=`a
     rw[I];rfl
 ·rintro y _ ⟨rfl,a4,a5,a6,rfl⟩;rw[OY,List.take_length,<- md.go.1];exact bC.mpr (bM ⟨rfl,rfl⟩)
def A8 (h205:P 205=some {3,4,dP})(n:Nat)(j:aX M x r)(hl:r.length<=100)
 (h199:dW (ag P n 199 [m.d,aR r,nD w] M) (λd M'=>xI m w r M d M'/\¬ cm m none) (λx M'=>x=.exc 8 none/\cm m none/\Sub M M')) :
 ae (ag P (n+1) 205 [m.d,x,nD w] M) λd M'=>(d=.non/\cm m none/\Sub M M')\/(xI m w r M d M'/\¬ cm m none):=by
 refine aF h205 rfl ?_;show ae (dP (ag P n) [some m.d,some x,some (nD w),none] M) _;unfold dP;refine bo (bJ rfl) ?_;rw[aM,Be,aM,va,dh (af rfl (af (cw j `a rfl) (af rfl rfl)))]
 cases e1:ag P n 199 [m.d,aR r,nD w] M with
 |bad=>rw[e1] at h199;exact h199.elim
 | err y h =>
   rw[e1] at h199;obtain⟨rfl,u,s1⟩:=h199;exact{8,none,rfl,.inl rfl,bo (bJ rfl) (lB.mpr (bC.mpr (bM (.inl ⟨rfl,u,s1⟩))))}
 | ok d h =>
   rw[e1] at h199;refine oC.mpr (bC.mpr (lB.mpr ?_));dsimp only[Kd,List.set];exact bC.mpr (bM (bp.mpr {_,rfl,.inr h199}))
end
structure HasC0 (P:Nat->Option Df):Prop where
 change:P 138=some {3,7,rM}
 do_:P 139=some {2,2,Af}
structure HasC (P:Nat->Option Df):Prop extends HasC0 P where
 price:P 89=some {2,2,ma}
 parted:P 140=some {3,6,lp}
structure HasE0 (P:Nat->Option Df):Prop extends HasC0 P where
 orders:P 141=some {0,0,rL}
structure OA (P:Nat->Option Df):Prop extends HasE0 P where
 price:P 89=some {2,2,ma}
 parted:P 140=some {3,6,lp}
 right:P 142=some {4,6,ph}
instance coeHasE0 {P:Nat->Option Df}:Coe (HasE0 P) (HasC0 P):=⟨HasE0.toHasC0⟩
instance coeHasE {P:Nat->Option Df}:Coe (OA P) (HasC P):={λh=>⟨h.toHasC0,h.price,h.parted⟩}
section
variable{P:Nat->Option Df}{M:Mem}{m:aJ}
def qD (j:HasB0 P)(hr:jB P)(h15:P 15=some {1,6,bG})(h151:P 151=some {1,2,dw})(h152:P 152=some {2,2,dC})(h165:P 165=some {3,11,gj})(h166:P 166=some {2,6,i6})(n:Nat)(hm:aC m) :
 dW (ag P (n+11) 166 [m.d,.non] M) (λd M'=>∃h E,d=.fn (au h)/\M.length<=h/\M'[h]?=some (i0 E)/\pB m M.length M' E/\AllIn m none ((un E).map pr)/\E.length<=255/\Sub M M') (λx M'=>x=.exc 8 none/\cm m none/\Sub M M'):=
 yB (bd:=none) (λ_=>rfl) (λ_=>rfl) j hr h15 h151 h152 h165 h166 n hm (λ_ z=>nomatch z)
end
section
variable{P:Nat->Option Df}{M:Mem}{p B:Nat}{m:aJ}
def EJ (h:HasP P)(h160:P 160=some {2,3,eF})(n:Nat)(H:t<6)(F:aN M p B)(E:B<=700000):ae (ag P (n+6) 160 [.cell p,nD t] M) λd M'=>∃m:aJ,d=m.d/\aC m/\aN M' p (B+300)/\bc p M M':=by
 refine aF h160 rfl ?_;have j:∃a b c:Nat,aS (bt false #[bu #[gI 3,gI 1,gI 6],bu #[gI 2,gI 2,gI 3],bu #[gI 3,gI 1,gI 4],bu #[gI 2,gI 2,gI 2],bu #[gI 4,gI 1,gI 2]]) (ai false .mod (aa 1) (gI 5)) [some (.cell p),some (nD t),none] M=.ok (.tup [nD a,nD b,nD c]) M/\2<=a/\a<=4/\1<=b/\b<=2/\1<=c/\c<=6:=by
  match t,H with
  |0,_=>exact{3,1,6,rfl,`d}
  |1,_=>exact{2,2,3,rfl,`d}
  |2,_=>exact{3,1,4,rfl,`d}
  |3,_=>exact{2,2,2,rfl,`d}
  |4,_=>exact{4,1,2,rfl,`d}
  |5,_=>exact{3,1,6,rfl,`d}
 obtain⟨a,b,c,e,a2,a4,u,v,y,z⟩:=j;refine bo (bJ e) ?_;rw[aM,eL,bg (af rfl (af (dj rfl rfl rfl) (af (dj rfl rfl rfl) (af (dj rfl rfl rfl) rfl))))];refine aQ (wA h n F E a2 a4 u v y z) ?_;rintro d M' ⟨m,rfl,hm,_,_,_,q,k⟩;exact⟨m,rfl,hm,q,k⟩
def aJ.withC (m:aJ)(c:Nat):aJ:={m.words,m.places,m.deeds.map (·.withC c)}
end
section
variable{P:Nat->Option Df}{M:Mem}{m:aJ}{k e:Nat}{r:List Nat}{hs:List (List Nat)}
def u4 (h1:a Z M=.ok x M1)(h2:b Z M1=.ok y M2)(h3:f x y M2=some d):hV f a b Z M=.ok d M2:=by
 unfold hV;rw[h1];dsimp only;rw[h2];show bL M2 (f x y M2)=_;rw[h3];rfl
def sq (h1:a Z M=.err x M1):hV f a b Z M=.err x M1:=by
 unfold hV;rw[h1]
def j4.sub' (s:j4 M k e m r hs)(h:Sub M M'):j4 M' k e m r hs:={h.get s.ob,h.get s.er}
def yA (h:HasM P)(ho:HasO0 P)(H:uN P)(h190:P 190=some {1,1,eQ})(n:Nat)(hm:aC m)(hr:cq m r)(s:j4 M k e m r hs)
 (h166:∀(M:Mem),dW (ag P (n+11) 166 [m.d,.non] M) (λd M'=>∃j E,d=.fn (au j)/\M.length<=j/\M'[j]?=some (i0 E)/\pB m M.length M' E/\AllIn m none ((un E).map pr)/\E.length<=255/\Sub M M') (λx M'=>x=.exc 8 none/\cm m none/\Sub M M')) :
 dW (ag P (n+12) 190 [.fn (au k)] M) (λd M'=>∃q,d=nD q/\bw m q (ends m r)/\¬ cm m none/\Sub M M') (λx M'=>x=.exc 8 none/\cm m none/\Sub M M'):=by
 refine kJ h190 rfl ?_;show ae (eQ (ag P (n+11)) [some (.fn (au k))] M) _;unfold eQ;have B:bf 166 (ag P (n+11)) #[dg "machine" (aa 0),gN] [some (.fn (au k))] M=ag P (n+11) 166 [m.d,.non] M:=dh (af (t5 (i:=0) (az rfl) s.ob `d rfl) (af rfl rfl))
 have t:=h166 M;rw[aM,E7];cases e1:ag P (n+11) 166 [m.d,.non] M with
 |bad=>rw[e1] at t;exact t.elim
 |err y u=>rw[e1] at t;rw[sq (sq (B.trans e1))];exact t
 | ok d u =>
   rw[e1] at t;obtain⟨j,E,rfl,_,F,_,all,few,s1⟩:=t;have sh:=s.sub' s1;have v:=(FN (Z:=[some (.fn (au k))]) (a:=aa 0) (s:=bx) rfl sh.ob rfl).trans (EL h ho H n hm hr sh);rw[hD] at v;have ro:cF m r (ends m r) (ay m r):=⟨hr.2,rfl,rfl⟩;obtain⟨q,_,hl⟩:=jn ro.rch;have z:=all.mem.mpr hl;rw[mr] at z;obtain⟨x,I,ex⟩:=Pf.mp z;have nd:(E.map (·.1)).Nodup:=by have:=all.nd;rw[mr,Qi] at this;exact this
   have s2:Sub u (u++(aU m).map λs=>(dt m r s).map av):=Sub.app;have g:=ua (s2.get F) nd I;rw[show x.1=ends m r from congrArg Prod.fst ex] at g;rw[u4 (u4 (B.trans e1) v g) rfl rfl];exact{q,by rw[<- show x.2.1=q from congrArg Prod.snd ex],hl,all.few (by rw[mr,OY];exact few),s1.trans s2}
end
section
variable{P:Nat->Option Df}{M M1 M2 M3:Mem}{Z:Env}{g a gi d:GE}{rest:GS}{K:Fl->Mem->Prop}{p B c many n j:Nat}
def JE (h:HasP0 P)(u:Z[j]?.getD none=some (.cell p))(y:g Z M=.ok (nD many) M)(F:aN M p B)(E:B<=1000000)(z:0<many)(h1:many<=10000000) :
 ∃(v:Nat) (M':Mem),ai false .add (gC (.int (c:Nat))) (ah 31 (ag P (n+2)) #[aa j,g]) Z M=.ok (nD (c+v)) M'/\v<many/\aN M' p (B+1)/\bc p M M':=by
 obtain⟨_,M',e,v,rfl,H,q,k⟩:=ig.mp (f6 h n u y F E z h1);refine{v,M',?_,H,q,k};unfold ai;show(ah 31 _ _ Z M).bind _=_;rw[e];rfl
def HB {i:Nat}(h:HasP0 P)(u:Z[j]?.getD none=some (.cell p))(y:g Z M=.ok (nD many) M)(F:aN M p B)(E:B<=1000000)(z:0<many)(h1:many<=10000000)
 (hk:∀(v:Nat) (M':Mem),v<many->aN M' p (B+1)->bc p M M'->ae (rest (Z.set i (some (nD (c+v)))) M') K):ae (aT (aw (.one i) (ai false .add (gC (.int (c:Nat))) (ah 31 (ag P (n+2)) #[aa j,g]))) rest Z M) K:=by
 obtain⟨v,M',e,H,q,k⟩:=JE (c:=c) (n:=n) h u y F E z h1;exact fS (jb e) (hk v M' H q k)
end
def Fc (h:((List.range n).map λ(k:Nat)=>D.int (k:Int))[i]?=some d):i<n/\d=nD i:=by
 rw[Pt] at h;obtain⟨j,u,rfl⟩:=O8.mp h;obtain⟨h1,h2⟩:=OV.mp u;rw[Ql] at h1;rw[List.getElem_range] at h2;exact{h1,by rw[h2]}
structure kZ (P:Nat->Option Df):Prop where
 m:HasM P
 p:HasP P
 a:uN P
 o:HasO0 P
 h19:P 19=some {2,2,j3}
 h35:P 35=some {3,6,gm}
 h47:P 47=some {2,2,b8}
 h151:P 151=some {1,2,dw}
 h152:P 152=some {2,2,dC}
 h160:P 160=some {2,3,eF}
 h165:P 165=some {3,11,gj}
 h166:P 166=some {2,6,i6}
 h190:P 190=some {1,1,eQ}
 h196:P 196=some {3,3,cE}
 h197:P 197=some {4,11,cX}
 h198:P 198=some {4,10,fu}
 h199:P 199=some {3,10,i7}
 h200:P 200=some {2,2,c5}
 h201:P 201=some {4,9,dO}
 h202:P 202=some {4,6,hG}
 h205:P 205=some {3,4,dP}
 h206:P 206=some {3,7,eC}
 h207:P 207=some {1,10,mS}
section
variable{P:Nat->Option Df}{M:Mem}{m:aJ}{w j k p B:Nat}{r t:List Nat}{ss:List (Nat×Nat×List Nat)}{x0 x2 x6 x9:Option D}{kf:Fl->Mem->Prop}
def FL {f:Nat}{c:Call}{s:GA}{a:GE}{ds es:List D}(h:a Z M=.ok (.fn (au k)) M1)(ob:M1[k]?=some (.int 40::es))(hs:s Z M1=.ok ds M'):cx 40 f c a s Z M=c f (.fn (au k)::ds) M':=by
 have e:gX M1 (au k)=some 40:=by
  unfold gX au;rw[if_pos (Qg _ _),Pz,ob];rfl
 unfold cx;rw[h];show(if gX M1 (au k)=some 40 then(s Z M1).bind _ else .bad)=_;rw[if_pos e,hs];rfl
def yL (h:kZ P)(hm:aC m)(few:¬ cm m none)(h4:Z[4]?.getD none=some m.d)(hi:Z[i]?.getD none=some x)(F:aX M x r)(hr:cq m r):ae (cx 40 190 (ag P 39) (jt 40 129 (ag P 39) (b7 (aa 4) (b7 (aA (.list false) (b7 (aa i) bx)) bx))) bx Z M) λd M'=>∃q,d=nD q/\bw m q (ends m r)/\Sub M M':=by
 have hl:=hr.1;have E:jt 40 129 (ag P 39) (b7 (aa 4) (b7 (aA (.list false) (b7 (aa i) bx)) bx)) Z M=.ok (.fn (au M.length)) (M++[[.int 40,m.d,aR r,.cell (M.length+1)],[]]):=ak (FO (af (az h4) (af (cw F `a hi) rfl)) (by have z:=EK h.m h.o 29 (M:=M) (x:=aR r) .l hm hr;rw[z];exact⟨rfl,rfl,rfl⟩))
 have u:j4 (M++[[.int 40,m.d,aR r,.cell (M.length+1)],[]]) M.length (M.length+1) m r []:={`s,`s}
 rw[FL E u.ob rfl];have z:=yA h.m h.o h.a h.h190 27 hm hr u (λM=>qD h.m.toHasM0.toHasB0 h.m.r h.a.h15 h.h151 h.h152 h.h165 h.h166 27 hm);cases e:ag P 39 190 [.fn (au M.length)] (M++[[.int 40,m.d,aR r,.cell (M.length+1)],[]]) with
 |bad=>rw[e] at z;exact z.elim
 |err y v=>rw[e] at z;exact few z.2.1
 | ok d v =>
   rw[e] at z;obtain⟨q,rfl,l,_,s⟩:=z;exact{q,rfl,l,Sub.app.trans s}
def yn (h:kZ P)(n:Nat)(hm:aC m)(v:aX M x r)(hr:cq m r)(hl:r.length<=12)(h1:1<=w)(u:w<=6):ae (ag P (n+13) 205 [m.d,x,nD w] M) λd M'=>(d=.non/\cm m none/\Sub M M')\/(xI m w r M d M'/\¬ cm m none):=
 A8 h.h205 (n+12) v `a (yC h.m h.h196 h.h199 n hm (λM=>qD h.m.toHasM0.toHasB0 h.m.r h.a.h15 h.h151 h.h152 h.h165 h.h166 n hm) (λf x y tl=>A5 h.m.toHasM0.toHasB0 h.m.r h.a.h15 h.h151 h.h152 h.h197 h.h198 n hm f x y tl u) .l hr hl h1 u)
def Calm.none (c:Calm m w r)(s:eK m w r p l x):False:=by
 have z:=c p l s.l1 s.lw s.pl;have ro:cF m x (ends m x) (ay m x):=⟨s.ok,rfl,rfl⟩;exact z.2 _ s.lt (s.en ▸ ro.rch)
def Calm.nil (c:Calm m w r)(h:cK m w r ss t):ss=[]/\t=r:=by
 cases ss with
 |nil=>exact⟨rfl,h.go.1⟩
 |cons s ss=>exact(c.none (h.go.2 0 s rfl)).elim
def Aa (hm:aC m)(c:Calm m w t)(hl:t.length<=w)(u:bw m q (ends m t)):q=ay m t:=by
 refine kA u ?_;by_cases h:t.length=0
 ·rw[QH.mp h];exact(iq hm).mpr (List.map_id _)
 ·have z:=c 0 t.length `a hl `a
  rwa [show win t 0 t.length=t from Pw (OZ _)] at z
def vp {M:Mem}:bB .ne (nD q) (nD q) M=some false:=by
 show some (!((q:Int)==(q:Int)))=_;simp
def FE {M:Mem}{a b:Nat}(e1:M[a]?=some (t.map nD))(e2:M[b]?=some [])(u:M[j]?=some (t.map nD)):bB .ne (.tup [.cell a,.cell b]) (.tup [.cell j,.lst []]) M=some false:=by
 have pt:(t.map nD).all (aj 62)=true:=by rw[Pk];intro x y;obtain⟨i,_,rfl⟩:=Pf.mp y;rfl
 have h:aj 64 (.tup [.lst (t.map nD),.lst []])=true:=by
  show((t.map nD).all (aj 62)&&(true&&true))=true;rw[pt];rfl
 refine(JB (v:=true) (a:=.tup [.lst (t.map nD),.lst []]) (b:=.tup [.lst (t.map nD),.lst []]) ?_ ?_ h h ?_ ?_).2
 ·show D.tup [bE 63 M (.cell a),bE 63 M (.cell b)]=_;rw[j9 (n:=62) (k:=62) e1 pt,j9 (n:=62) (k:=62) e2 rfl]
 ·show D.tup [bE 63 M (.cell j),.lst []]=_;rw[j9 (n:=62) (k:=62) u pt]
 ·show(dB (t.map nD) (t.map nD)&&true)=true;rw[pd,decide_eq_true rfl];rfl
 ·intro r e;have e:(none:Option Bool)=some r:=e;cases e
def AX (h:kZ P)(hm:aC m)(few:¬ cm m none)(E:cq m t)(h1:1<=w)(H:w<=6)(cl:Calm m w t)(v:M[j]?=some (t.map nD))(I:bw m q (ends m t))(kk:∀M',Sub M M'->kf (.next [x0,some (.cell p),x2,some (nD w),some m.d,some (aR r),x6,some (.cell j),some (.cell k),some (nD q)]) M') :
 ae (wt (ag P 39) [x0,some (.cell p),x2,some (nD w),some m.d,some (aR r),x6,some (.cell j),some (.cell k),some (nD q)] M) kf:=by
 have tl:=E.1;unfold wt;refine dR (Kp (b:=decide (t.length<=w)) (cZ (f9 (lM (.c v) rfl) rfl ?_)) λz=>cZ (f9 rfl ((bg (af rfl (af (cw (.c v) `a rfl) rfl))).trans (iD h.m.toHasM0 h.h19 h.h47 29 hm E)) ?_)) ?_
 ·show some (decide ((t.length:Int)<=(w:Int)))=_;simp
 ·rw[Aa hm cl (of_decide_eq_true z) I];exact vp
 refine iH (R:=Sub M) ?_ λF s1=>lB.mpr (kk F s1);have y:aq (aH .le (aA .len (b7 (aa 7) bx)) (gC (.int 12))) [x0,some (.cell p),x2,some (nD w),some m.d,some (aR r),x6,some (.cell j),some (.cell k),some (nD q)] M=.ok (decide (t.length<=12)) M:=cZ (f9 (lM (.c v) rfl) rfl (by
  show some (decide ((t.length:Int)<=12))=some (decide (t.length<=12));rw[decide_eq_decide.mpr (by omega:(t.length:Int)<=12↔t.length<=12)]))
 rw[KP,y,bS];by_cases u:t.length<=12
 ·rw[if_pos (decide_eq_true u),fQ,eJ];refine vk (af rfl (af rfl (af rfl rfl))) (aQ (yn h 26 hm (.c v) E u h1 H) ?_);rintro d F (⟨rfl,J,_⟩|⟨⟨a,b,L,O,rfl,_,_,e1,e2,md,_,s1⟩,_⟩)
  ·exact(few J).elim
  ·obtain⟨rfl,rfl⟩:=cl.nil md;simp only[e9,bO,cJ,bp,DL,bT];exact{_,rfl,QO _,aG (n:=2) `d,false,FE e1 e2 (s1.get v),false,rfl,rfl,s1}
 ·rw[if_neg (by simpa using u)]
  exact{rfl,.refl}
def AY (h:kZ P)(hm:aC m)(few:¬ cm m none)(hr:cq m r)(u:cq m t)(en:ends m t=ends m r)(h1:1<=w)(J:w<=6)(cl:Calm m w t)(y:M[j]?=some (t.map nD))(kk:∀M' O,Sub M M'->kf (.next [x0,some (.cell p),x2,some (nD w),some m.d,some (aR r),x6,some (.cell j),some (.cell k),O]) M') :
 ae (wu (ag P 39) [x0,some (.cell p),x2,some (nD w),some m.d,some (aR r),x6,some (.cell j),some (.cell k),x9] M) kf:=by
 have tl:=u.1;unfold wu;refine cS (h:=yL h hm few (i:=5) rfl rfl .l hr) ?_;rintro _ F ⟨q,rfl,v,s1⟩;rw[<- en] at v;refine iH (R:=Sub F) ?_ λH s2=>AX h hm few u h1 J cl ((s1.trans s2).get y) v λI L=>kk I _ ((s1.trans s2).trans L);rw[Nj,fQ,eJ];refine bp.mpr {_,rfl,aQ (yL h hm few (i:=7) rfl rfl (.c (s1.get y)) u) ?_};rintro _ H ⟨Q,rfl,E,s2⟩;rw[kA E v];refine{false,vp,false,rfl,?_};rw[if_neg `d]
 have ro:cF m t (ends m t) (ay m t):=⟨u.2,rfl,rfl⟩;have le:q<=ay m t:=Nat.le_of_not_lt λz=>v.2 _ z ro.rch;rw[cZ (f9 (w:=false) rfl ((bg (af rfl (af (cw (.c ((s1.trans s2).get y)) `a rfl) rfl))).trans (iD h.m.toHasM0 h.h19 h.h47 29 hm u)) ?_),bS]
 ·exact⟨rfl,s2⟩
 ·show some (decide ((ay m t:Int)<(q:Int)))=_;rw[decide_eq_false `a]
def AZ (h:kZ P)(hm:aC m)(few:¬ cm m none)(hr:cq m r)(hl:r.length<=12)(y:cq m t)(md:cK m w r ss t)(h1:1<=w)(H:w<=6)(cl:Calm m w t)(u:M[j]?=some (t.map nD))(v:M[k]?=some (ss.map b9))(kk:∀M' z,Sub M M'->kf (.next [x0,some (.cell p),x2,some (nD w),some m.d,some (aR r),x6,some (.cell j),some (.cell k),z]) M') :
 ae (wx (ag P 39) [x0,some (.cell p),x2,some (nD w),some m.d,some (aR r),x6,some (.cell j),some (.cell k),x9] M) kf:=by
 have tl:=y.1;have S:=hr.1;have en:=md.ends hm hr.2;unfold wx;refine iH (R:=Sub M) ?_ λE s1=>?_
 ·rw[fQ,eJ];refine vk (af rfl (af (cw .l `a rfl) (af (cw (.c u) `a rfl) rfl))) (aQ (sy h.m h.a 27 .l .l hm hr y) ?_)
  rintro _ E ⟨rfl,s1⟩;rw[rE.mpr en.symm];exact⟨false,rfl,false,rfl,rfl,s1⟩
 replace u:=s1.get u;replace v:=s1.get v;refine iH (R:=Sub E) ?_ λF s2=>?_
 ·rw[fQ,eJ,bg (af rfl (af (cw (.c u) `a rfl) rfl)),yH h.m h.a.h15 h.a.h27 h.a.h46 28 hm y,bS,bg (af rfl (af (cw .l `a rfl) rfl)),yH h.m h.a.h15 h.a.h27 h.a.h46 28 hm hr,bS]
  refine{false,?_,_,rfl,rfl,Sub.app.trans .app};rw[hD,hD,qY,en,decide_eq_true rfl];rfl
 replace u:=s2.get u;replace v:=s2.get v;have J:=iD h.m.toHasM0 h.h19 h.h47 29 (M:=F) hm hr;have L:=iD h.m.toHasM0 h.h19 h.h47 29 (M:=F) hm y;have O:=yz h.m.toHasM0 h.h19 h.h47 h.h206 28 hm hr hl H md v;refine dR (cZ (f9 (j0 ((bg (af rfl (af (cw .l `a rfl) rfl))).trans J) ((bg (af rfl (af (cw (.c u) `a rfl) rfl))).trans L)) ((bg (af rfl (af (cw .l `a rfl) (af rfl rfl)))).trans O) ?_)) ?_
 ·show some (!(((ay m r:Int)-(ay m t:Int))==((ay m r:Int)-(ay m t:Int))))=_;simp
 ·exact AY h hm few hr y en h1 H cl u λI z Q=>kk I z ((s1.trans s2).trans Q)
def Jo {A B:GS}{c:GT}(e:c Z M=.ok true M)(h:ae (A Z M) kf):ae (aL c A B Z M) kf:=by
 rw[jO,e];exact h
def BQ {A B:GS}{c:GT}(e:c Z M=.ok false M)(h:ae (B Z M) kf):ae (aL c A B Z M) kf:=by
 rw[jO,e];exact h
def yi {x3 x4 x5 x7 x8:Option D}{E:Nat}(h:kZ P)(I:E<6)(hp:aN M p B)(hB:B<=400000)
 (kk:∀M' z3 z4 z5 z6 z7 z8 S,aN M' p (B+400)->kf (.next [x0,some (.cell p),some (nD E),z3,z4,z5,z6,z7,z8,S]) M') :
 ae (sf (ag P 39) [x0,some (.cell p),some (nD E),x3,x4,x5,x6,x7,x8,x9] M) kf:=by
 unfold sf;refine HB (c:=1) (many:=6) (n:=37) h.p.toHasP0 rfl rfl hp `a `d `d λv M0 hv p0 _=>?_
 simp only[List.set];refine cS (k:=λd M'=>∃m:aJ,d=m.d/\aC m/\aN M' p (B+301)) ?_ ?_
 ·rw[zR,bO,bg (xs:=[.cell p]) (af rfl rfl)];refine aQ (EX h.p.toHasP0 38 p0) ?_;rintro _ U ⟨rfl,p1,k1⟩;rw[bO];refine bp.mpr {_,rfl,cJ.mpr ?_};refine aQ (EJ h.p h.h160 33 I p1 `a) ?_
  rintro d W ⟨m,e,hm,p2,_⟩;exact{m,e,hm,p2.mono `a}
 rintro _ U ⟨m,rfl,hm,p1⟩;obtain⟨d,W,e2,r,rfl,hr,F,p2,_⟩:=ig.mp (EM h.p h.h35 36 (mo:=12) hm p1 `a `d)
 refine fS (jb ((bg (xs:=[.cell p,m.d,nD 12]) (af rfl (af rfl (af rfl rfl)))).trans e2)) ?_;refine cS (h:=vk (xs:=[m.d,aR r,nD (1+v)]) (af rfl (af rfl (af rfl rfl))) (yn h 26 hm .l hr F `a `a)) ?_
 rintro d y (⟨rfl,mn,L⟩|⟨⟨j,k,ss,t,rfl,_,_,H,Q,md,cl,L⟩,few⟩)
 ·exact Jo rfl (lB.mpr (kk y _ _ _ _ _ _ _ (L.pen (p2.mono `a))))
 have p3:=L.pen p2;refine BQ rfl (bo (iL (ρ1:=[x0,some (.cell p),some (nD E),some (nD (1+v)),some m.d,some (aR r),some (.tup [.cell j,.cell k]),some (.cell j),some (.cell k),x9]) rfl rfl) ?_);obtain⟨J,tl,sl⟩:=md.num_le hm hr.2 F;have I:cq m t:={`a,J}
 have el:aA (.list false) (b7 (aa 8) bx) [x0,some (.cell p),some (nD E),some (nD (1+v)),some m.d,some (aR r),some (.tup [.cell j,.cell k]),some (.cell j),some (.cell k),x9] y=.ok (.lst (ss.map b9)) y:=by
  rw[pb (af (az rfl) rfl)];show(match y[k]? with|some Y=>a7 false Y y|none=>.bad)=_
  rw[Q];exact if_pos (aG (by rw[OY];omega))
 refine iH (R:=Sub y) ?_ λO u=>?_
 ·rw[fQ,eJ];refine vk (af rfl (af (cw .l `a rfl) (af rfl (af el rfl)))) (aQ (ES h.m h.h196 h.h202 27 hm (λJ tl so=>EW h.m h.a h.h47 h.h200 h.h201 27 hm .l J tl `a so) .l hr F `a `a md) ?_)
  rintro _ O ⟨rfl,u⟩;refine bp.mpr {_,rfl,false,?_,_,rfl,rfl,u};have z:=Gw (M:=O) (x:=aR t) .l (.c (u.get H));rw[z,decide_eq_true rfl];rfl
 refine BQ (cZ (f9 (lM (.c (u.get H)) rfl) rfl ?_)) (AZ h hm few hr F I md `a `a cl (u.get H) (u.get Q) λX S s5=>kk X _ _ _ _ _ _ _ ((u.trans s5).pen (p3.mono `a)))
 show some (decide ((40:Int)<(t.length:Int)))=_;rw[decide_eq_false `a]
def Lx (h:kZ P)(ns:List Int)(hn:ns.length<=63):∃M,ag P 40 207 [.frz (ns.map D.int)] []=.ok (.bl true) M:=by
 have v:ae (ag P 40 207 [.frz (ns.map D.int)] []) λd _=>d=.bl true:=by
  refine aF h.h207 rfl ?_;show ae (mS (ag P 39) [some (.frz (ns.map D.int)),none,none,none,none,none,none,none,none,none] []) _;unfold mS;refine cS (k:=λd u=>d=.cell 1/\aN u 1 0) ?_ ?_
  ·rw[bg (af rfl rfl)];exact EO h.p.toHasP0 38 hn
  rintro _ R ⟨rfl,p1⟩;rw[aM,gR,gP,fN];refine{4,rfl,{`d,`d},?_}
  refine fL (ds:=(List.range 4).map λ(k:Nat)=>D.int (k:Int)) (λi O u=>aN u 1 (400*i)/\∃y z E F H I J L,O=[some (.frz (ns.map D.int)),some (.cell 1),y,z,E,F,H,I,J,L]) (λ_ _ _ _=>rfl) {p1,_,_,_,_,_,_,_,_,rfl} ?_ ?_
  ·rintro i d O u hd ⟨Q,y,z,E,F,H,I,J,L,rfl⟩;obtain⟨U,rfl⟩:=Fc hd;refine{_,rfl,?_};exact yi h `a Q `a λS W X Y z6 z7 z8 z9 p2=>{_,rfl,p2.mono `a,_,_,_,_,_,_,_,_,rfl}
  ·rintro O u ⟨Q,y,z,E,F,H,I,J,L,rfl⟩;rw[bC];exact gz rfl rfl
 obtain⟨d,M,e,rfl⟩:=ig.mp v;exact⟨M,e⟩
end
end LD
end
set_option maxHeartbeats 0
namespace K43
open PySem PySem.Spec PyProof.Rows L2 LD
noncomputable def top (i:Nat):Stmt:=PySem.Challenge.pw_leastdeeds_k43_whole_mended_rows.main.body.getD i (.Pass {0,0,0,0})
noncomputable def q0:Str×Tok:=("__main__",164)
noncomputable def q1:Str×Tok:=("leastdeeds.wholes",335)
noncomputable def q2:Str×Tok:=("leastdeeds.machines",346)
noncomputable def q3:Str×Tok:=("leastdeeds.runs",531)
noncomputable def q4:Str×Tok:=("leastdeeds.least",626)
noncomputable def q5:Str×Tok:=("leastdeeds.mending",671)
noncomputable def q6:Str×Tok:=("leastdeeds.alike",768)
noncomputable def q7:Str×Tok:=("leastdeeds.shop",784)
noncomputable def q8:Str×Tok:=("law_leastdeeds_k43_whole_mended_rows",887)
noncomputable def tb:List Ent:=[{128,"_wall",top 0,1,["k"],21,q0,GC,false,none,0},
 {0,"is_between",top 11,3,["thing","low","high"],132,q1,i9,false,none,0},
 {1,"is_word",top 19,2,["words","thing"],139,q2,lZ,false,none,0},
 {2,"is_place",top 20,2,["places","thing"],146,q2,kW,false,none,0},
 {3,"is_cost",top 21,1,["thing"],153,q2,l9,false,none,0},
 {4,"is_tuple_of",top 22,2,["long","thing"],160,q2,h9,false,none,0},
 {5,"is_table",top 23,2,["words","thing"],165,q2,kU,false,none,0},
 {6,"is_double_table",top 24,2,["words","thing"],170,q2,fi,false,none,0},
 {7,"is_turn",top 25,3,["words","places","parts","at","table","price"],177,q2,l4,false,none,0},
 {8,"is_join",top 26,3,["words","places","parts","at","other","table","price"],184,q2,l6,false,none,0},
 {9,"is_move",top 27,3,["words","places","parts","at","other","price"],191,q2,l5,false,none,0},
 {10,"is_put",top 28,3,["words","places","parts","at","word","price"],198,q2,nX,false,none,0},
 {11,"is_deed",top 30,3,["words","places","thing","sort","is_sort"],206,q2,l7,false,none,0},
 {12,"is_machine",top 31,1,["thing","words","places","deeds"],211,q2,i8,false,none,0},
 {13,"need_machine",top 32,1,["thing"],218,q2,gE,true,none,0},
 {15,"beginnings",top 33,1,["machine","words","places","deeds","starts","place"],223,q2,bG,true,none,0},
 {16,"is_deed_number",top 34,2,["machine","thing"],230,q2,fG,false,none,0},
 {17,"need_numbers",top 35,2,["machine","row","place","thing"],237,q2,gD,true,none,0},
 {18,"need_row",top 36,2,["machine","row"],244,q2,kS,true,none,0},
 {47,"summed_cost",top 37,2,["machine","row"],249,q2,b8,false,none,0},
 {19,"cost",top 38,2,["machine","row"],256,q2,j3,true,none,0},
 {20,"turned",top 40,2,["deed","standing","sort","at","table","price"],263,q3,kM,false,none,0},
 {21,"joined",top 41,2,["deed","standing","sort","at","other","table","price"],270,q3,kT,false,none,0},
 {22,"moved",top 42,2,["deed","standing","sort","at","other","price"],277,q3,mR,false,none,0},
 {23,"put_in",top 43,2,["deed","standing","sort","at","word","price"],284,q3,kQ,false,none,0},
 {24,"done",top 45,2,["deed","standing","new_word","at"],292,q3,pf,false,none,0},
 {25,"all_standing",top 46,3,["machine","row","beginning","standings","number"],299,q3,gF,false,none,0},
 {46,"ends_of",top 47,2,["machine","row"],304,q3,eP,false,none,0},
 {27,"behaviour",top 48,2,["machine","row"],311,q3,fv,true,none,0},
 {151,"priced_leads",top 51,1,["machine","starts"],316,q4,dw,true,none,0},
 {152,"led_to",top 52,2,["lead","ends"],321,q4,dC,false,none,0},
 {165,"next_level",top 53,3,["leads","levels","found","price","level","number","step_price","lead","ahead","ends","new_ends"],328,q4,gj,true,none,0},
 {166,"reached",top 54,2,["machine","bound","leads","empty_ends","found","levels"],336,q4,i6,true,none,329},
 {196,"need_mendable",top 58,3,["machine","row","most"],343,q5,cE,true,none,0},
 {197,"cheaper_window",top 59,4,["leads","found","ends","deeds","price","long","number","step_price","lead","least_price","least_row"],350,q5,cX,false,none,0},
 {198,"next_step",top 60,4,["machine","found","row","most","leads","empty_ends","place","window","long","cheaper"],357,q5,fu,true,none,0},
 {199,"mended",top 61,3,["machine","row","most","found","standing","steps","step","place","long","cheaper"],364,q5,i7,true,none,0},
 {200,"are_deed_numbers",top 62,2,["machine","thing"],369,q5,c5,false,none,0},
 {201,"behind_window",top 63,4,["machine","row","most","step","place","long","cheaper","beyond","window"],376,q5,dO,false,none,0},
 {202,"made_by",top 64,4,["machine","row","most","steps","standing","step"],383,q5,hG,true,none,0},
 {48,"parted",top 66,3,["machine","one","other","one_ends","other_ends","start","one_end","other_end"],390,q6,nW,true,none,0},
 {129,"__init__",inClass (top 68) 0,3,["self","machine","row"],404,q7,jy,true,some "Shop.__init__",0},
 {130,"row",inClass (top 68) 1,1,["self"],411,q7,pj,false,some "Shop.row",0},
 {131,"cost",inClass (top 68) 2,1,["self"],418,q7,nh,false,some "Shop.cost",0},
 {132,"behaviour",inClass (top 68) 3,1,["self"],425,q7,ja,false,some "Shop.behaviour",0},
 {190,"least",inClass (top 68) 4,1,["self"],432,q7,eQ,true,some "Shop.least",0},
 {133,"put",inClass (top 68) 5,3,["self","place","number"],439,q7,pq,true,some "Shop.put",0},
 {203,"out",inClass (top 68) 6,2,["self","place"],446,q7,rN,false,some "Shop.out",0},
 {204,"back",inClass (top 68) 7,1,["self"],453,q7,qm,false,some "Shop.back",0},
 {136,"change",inClass (top 68) 8,2,["self","row"],460,q7,lq,false,some "Shop.change",0},
 {137,"give",inClass (top 68) 9,2,["self","row","start"],467,q7,ng,true,some "Shop.give",0},
 {28,"_law_spread",top 70,2,["cell","at","primes","one","two","three"],481,q8,lj,false,none,0},
 {29,"_law_open",top 71,1,["script","cells","k","cell"],488,q8,jH,false,none,0},
 {30,"_law_anew",top 72,1,["pen"],495,q8,jI,false,none,0},
 {31,"_law_take",top 73,2,["pen","many","at","cell","found"],502,q8,m9,false,none,0},
 {32,"_law_tab",top 74,2,["pen","words","kind","word","other","found"],507,q8,iy,false,none,0},
 {33,"_law_deed",top 75,3,["pen","words","places","kind","price","at","other"],512,q8,gO,false,none,0},
 {34,"_law_machine",top 76,4,["pen","words","places","most","deeds","k","again","deed"],519,q8,fb,false,none,0},
 {35,"_law_row",top 77,3,["pen","machine","most","kind","many","found"],524,q8,gm,false,none,0},
 {160,"_law_some_machine",top 78,2,["pen","turn","size"],531,q8,eF,false,none,0},
 {205,"_law_told",top 79,3,["machine","row","most","found"],538,q8,dP,false,none,0},
 {206,"_law_spared",top 80,3,["machine","row","steps","total","place","long","some"],545,q8,eC,false,none,0},
 {207,"law",top 81,1,["script","pen","turn","most","machine","row","found","other","steps","price"],552,q8,mS,false,none,0}]
def rs:Rs:={[CK,CJ,Mx,yf,Hg,CD,yh,Hf,G9,G8,Hb,Ha,Hh,G7,ya,yc,CH,CI,CN,CM,Mw,Hc,CF,CG],[G3,vT],[GU,xT,Cw],[G2,Cz,CA,Cy,G1],[GP,GK,Cr,Cs,Cu,xP,Ct,GN,GQ,GR,GO,GL,xR,uV,Aq]}
def K8:Cm rs:={⟨AJ,AI,He,yd,EB,AD,yg,EA,Ew,Eu,Ey,Ex,EC,Et,xZ,yb,AG,AH,AL,AK,Hd,Ez,AE,AF,trivial⟩,⟨Er,KJ,trivial⟩,⟨Ej,xS,As,trivial⟩,⟨Eo,AA,AB,Az,Em,trivial⟩,⟨Eg,Eb,An,Ao,Ar,xO,Ap,Ed,Eh,Ei,Ee,Ec,xQ,wj,Ef,trivial⟩}
noncomputable def te0:List (Str×En):=List.map (λx=>(x,En.bl)) ["all","any","bool","enumerate","int","isinstance","len","list","range","str","sum","tuple","zip"]
def te1:List (Str×En):=[("LEAST_WORDS",.int 2),("LONGEST_MENDED",.int 12),("LONGEST_ROW",.int 40),("MOST_BEHAVIOURS",.int 255),("MOST_COST",.int 3),("MOST_DEEDS",.int 6),("MOST_PLACES",.int 2),("MOST_WORDS",.int 4),("WIDEST_WINDOW",.int 6),("NEW_WORDS",.dct cD),("SORTS",.dct dS),("NoMachine",.xc 3)]
noncomputable def te2:List (Str×En):=[("TooLong",.xc 4),("NoBound",.xc 7),("TooMany",.xc 8),("NoPlace",.xc 9),("NoDeed",.xc 10),("DeedError",.de),("Shop",.cls 40 129)]
def te:List (Str×En):=te0++te1++te2
def tbl:mh:={(tb.filter (·.q.isNone)).map (λe=>(e.x,if e.i==166 then En.fnD e.i else En.fn e.i e.r))++te,[("TooMany","TooMany",8,8)],[],[("NEW_WORDS",cD),("SORTS",dS)],[],[(135,16,27),(153,12,14),(159,42,67),(167,29,31),(168,13,27),(203,15,24),(204,12,14),(250,23,25),(253,15,34),(298,12,29),(301,11,24),(330,12,30),(349,12,14)],[(150,18,27),(158,15,36),(159,16,31),(159,42,53),(161,19,29),(167,12,33),(187,33,44),(262,15,54)],[("behaviour",40,132),("change",40,136),("give",40,137),("least",40,190)],rs,tb}
def Pg:Nat->Option Df:=tbl.Pg
def K9:∀c,tb.map (tbl.rd c)=tb.map λe=>some (e.b c):=λc=>by kernel_rfl
def tab:xE tbl:={K8,K9,by kernel_rfl,by kernel_rfl,λ_ _ _ _ _ _=>by kernel_rfl,λ_ _ _ _ _ _ _=>by kernel_rfl,λ_ _ _ _ _ _ _ _=>by kernel_rfl,λ_ _ _ _ _ _ _ _ _=>by kernel_rfl,λ_ _ _ _ _ _ _ _ _ _=>by kernel_rfl,λ_ _ _ _ _ _ _ _ _ _ _ _=>by kernel_rfl,λ_ _ _ _ _ _ _ _ _ _ _=>by kernel_rfl,by rw[show tbl.tb.filter (λe=>!(e.df==0))=[tb[32]] from by kernel_rfl];exact{{rfl,λ_ _ _ _ _ _ _ _=>{_,_,rfl,rfl,rfl,rfl}},trivial}}
def fa:Fa:=LD.t8 (tb.map (λe=>(e.i,e.f))++[(940,470),(666,1)]) [(0,51),(3,63),(4,75),(7,87),(8,99),(9,111),(10,123)] 31
def BG:∀ns:List Int,ns.length<=63->∃M,ag Pg 40 207 [.frz (ns.map D.int)] []=.ok (.bl true) M:=Lx (by repeat' (first|rfl|constructor))
end K43
open PySem PySem.W PyProof.Rows K43
set_option maxRecDepth 100000 in
set_option maxHeartbeats 0 in
theorem PySem.Challenge.cw_leastdeeds_k43_whole_mended_rows_holds : PySem.Challenge.rw_leastdeeds_k43_whole_mended_rows.Holds := by
 w_on;o_law
 refine PySem.W.holds_open (r:=K43.wZ) (q:=K43.kq) (loose:=K43.oI) (Xt:=fun s=>PySem.W.xlAt K43.kq [] s&&PySem.W.recOk (PySem.W.RowW.records K43.wZ.toRowW) s) (XP:=PySem.W.XL K43.kq []) (Yf:=K43.kH.obs) (Ya:=K43.kH.val) (YP:=K43.kH.says) (N:=8526) K43.Ly K43.kH.of K43.kH.keeps (fun s e=>PySem.W.xl_of s (QV.mp e).1) PySem.W.XL.keeps `r `r `r (fun s e=>PySem.W.recFacts_of (QV.mp e).2) `r (by first|assumption|decide +kernel) `k ⟨rfl,rfl,rfl,rfl,rfl,`k⟩ ?hw ?hc
 case hw=>w_witness2
 refine L2.El (l:=PySem.Challenge.rw_leastdeeds_k43_whole_mended_rows) (n:=63) (k:=84) (x:="script") (CX:=fun w=>LD.ib PySem.Challenge.rw_leastdeeds_k43_whole_mended_rows.prog w) (K:=K43.kh) (sp:=fun w=>LD.CU (K43.kh w.params)) rfl `d rfl ⟨rfl,`d,`d,rfl⟩ (fun w h Y=>PySem.W.kIn_of Y) ?F (fun w H a ns hl hO hS=>⟨a,ns,rfl,hS,hO,hl,fun _=>rfl⟩) (fun _ _ _ _ _ z=>let⟨_,_,_,_,_,_,_,_,_,_,q⟩:=z;q)
 case F=>
  intro w mg fa h KX G hmg;have tk:LD.Ak (K43.kh w.params) K43.tb:=⟨by kernel_rfl,by kernel_rfl,by kernel_rfl,by kernel_rfl⟩
  obtain⟨m,fd,F⟩:=LD.EG tk KX G (e:=K43.tb[62]) (QZ _) rfl rfl;have d_NEW_WORDS:=LD.vG (x:="NEW_WORDS") (P:=w.params) (fa:=K43.fa) (fs:=LD.cD) (ad:=285) (es:=#[{hash:=PySem.PyData.keyHash w.params (PySem.Str.ofString "turn"),key:=PySem.Value.str (PySem.Str.ofString "turn") 582,val:=PySem.Value.ref 263},{hash:=PySem.PyData.keyHash w.params (PySem.Str.ofString "join"),key:=PySem.Value.str (PySem.Str.ofString "join") 583,val:=PySem.Value.ref 270},{hash:=PySem.PyData.keyHash w.params (PySem.Str.ofString "move"),key:=PySem.Value.str (PySem.Str.ofString "move") 584,val:=PySem.Value.ref 277},{hash:=PySem.PyData.keyHash w.params (PySem.Str.ofString "put"),key:=PySem.Value.str (PySem.Str.ofString "put") 585,val:=PySem.Value.ref 284}]) (n:=4) KX G (by kernel_rfl) (by kernel_rfl) (by exact LD.fK (LD.fK (LD.fK (LD.fK (LD.zD))))) `k `d (by exact .cons ⟨rfl,rfl⟩ (.cons ⟨rfl,rfl⟩ (.cons ⟨rfl,rfl⟩ (.cons ⟨rfl,rfl⟩ (.nil)))))
  have d_SORTS:=LD.vG (x:="SORTS") (P:=w.params) (fa:=K43.fa) (fs:=LD.dS) (ad:=199) (es:=#[{hash:=PySem.PyData.keyHash w.params (PySem.Str.ofString "turn"),key:=PySem.Value.str (PySem.Str.ofString "turn") 452,val:=PySem.Value.ref 177},{hash:=PySem.PyData.keyHash w.params (PySem.Str.ofString "join"),key:=PySem.Value.str (PySem.Str.ofString "join") 453,val:=PySem.Value.ref 184},{hash:=PySem.PyData.keyHash w.params (PySem.Str.ofString "move"),key:=PySem.Value.str (PySem.Str.ofString "move") 454,val:=PySem.Value.ref 191},{hash:=PySem.PyData.keyHash w.params (PySem.Str.ofString "put"),key:=PySem.Value.str (PySem.Str.ofString "put") 455,val:=PySem.Value.ref 198}]) (n:=4) KX G (by kernel_rfl) (by kernel_rfl) (by exact LD.fK (LD.fK (LD.fK (LD.fK (LD.zD))))) `k `d (by exact .cons ⟨rfl,rfl⟩ (.cons ⟨rfl,rfl⟩ (.cons ⟨rfl,rfl⟩ (.cons ⟨rfl,rfl⟩ (.nil)))))
  have TO:=fun base=>LD.EF (base:=base) (P:=PySem.Challenge.rw_leastdeeds_k43_whole_mended_rows.prog) (w:=w) (t:=K43.tbl) (fa:=K43.fa) KX G (by kernel_rfl) (LD.GX (by kernel_rfl)) (LD.IG (by kernel_rfl)) (LD.BZ (by kernel_rfl)) ⟨rfl,rfl⟩ ⟨d_NEW_WORDS,d_SORTS,trivial⟩ trivial
  have tw:LD.AllP (fun q=>LD.wc K43.fa (K43.kh w.params) mg q.1 q.2.1 q.2.2.1 q.2.2.2) K43.tbl.tw:=⟨LD.Hj (LD.zq (x:="TooMany") (f:=99) KX G (by kernel_rfl)) (LD.zq (x:="TooMany") (f:=99) KX G (by kernel_rfl)) (by kernel_rfl),trivial⟩
  have xf:LD.AllP (fun f=>LD.D3 K43.fa (K43.kh w.params) f) K43.tbl.xf:=trivial
  have ms:∀q∈K43.tbl.ms,LD.pC K43.fa (K43.kh w.params) q.1 q.2.1 q.2.2:=LD.IX (by kernel_rfl)
  have e:=hmg.symm.trans m;cases e;exact⟨fd,fun s v=>by
   obtain⟨oc,od,kV,doc,pm,an,cdv,ct,osl,rfl,lk,hcd⟩:=F.ex;exact .of_eq rfl,fun base _ _=>LD.Jb (n:=39) (f:=207) (LD.A0 K43.tab tk KX G (TO base) tw.mem xf.mem ms (by kernel_rfl)) K43.BG rfl F (LD.oM (e:=K43.tb[62]) (Pk.mp K43.tab.sc K43.tb[62] (QZ _))).1 rfl fun c n a b d s H E C hr=>LD.sj (e:=K43.tb[62]) K43.tab (TO base) tw.mem xf.mem ms (QZ _) c n a b d s H E C hr⟩
